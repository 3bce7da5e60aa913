"""What holds over the whole program: each call by itself, whichever came before it, and what is handed in stays."""

import inspect
import itertools
import random
import unittest

from fitpick import registers
from fitpick.registers import pk_choose, pk_core, pk_keep, pk_order, pk_read
from plain import MOST, Untouchable, pairs, places, rows, some_register, told, told_core, told_order

REGISTER = rows(
    "app 1.0.0 lib:*", "app 2.0.0 lib:>2.0.0 log:*", "lib 1.0.0", "lib 2.0.0 log:<2.0.0", "lib 3.0.0 app:*", "log 1.0.0",
    "log 2.0.0 gone:*", "web 1.0.0 lib:=1.0.0",
)


def answered(text):
    """The answer with this text; None stands for no choice."""
    return [-6] if text is None else [len(text)] + list(text.encode())


def five_calls(register, wish, old, most=MOST):
    """Each function with the lists that it's handed, and a whole number ahead of them where there's one."""
    b, wishes, earlier = [list(text.encode("latin-1")) for text in (register, wish, old)]
    return [
        (pk_read, [], [b]), (pk_choose, [most], [b, wishes]), (pk_keep, [most], [b, wishes, earlier]),
        (pk_core, [], [b, wishes]), (pk_order, [most], [b, wishes]),
    ]


CASES = (
    ("", "", ""), (REGISTER, "app:*", ""), (REGISTER, "app:*", "lib 1.0.0\n"), (REGISTER, "web:* log:* app:>2.0.0", ""),
    (REGISTER, "web:* app:*", "lib 2.0.0\nlog 1.0.0"), (REGISTER, "gone:*", "app 1.0.0"), (REGISTER, "app:* ", ""),
    ("app 1.0\n", "app:*", ""), (REGISTER, "app:*", "app"), (*places(5, 4), ""), (*places(4, 4), "gaa 1.0.0"),
    (*pairs(5), ""), (*pairs(6), "paa 1.0.0"),
)


class Interface(unittest.TestCase):
    def test_names_and_arguments(self):
        for name, arguments in {
            "pk_read": ["b"], "pk_choose": ["most", "b", "wish"], "pk_keep": ["most", "b", "wish", "old"],
            "pk_core": ["b", "wish"], "pk_order": ["most", "b", "wish"],
        }.items():
            parameters = inspect.signature(getattr(registers, name)).parameters
            self.assertEqual(list(parameters), arguments)
            self.assertEqual({one.default for one in parameters.values()}, {inspect.Parameter.empty})


class EachByItself(unittest.TestCase):
    def test_what_is_handed_in_stays(self):
        for case, most in itertools.product(CASES, (MOST, 3, 32769)):
            for function, numbers, lists in five_calls(*case, most):
                before = [list(one) for one in lists]
                answer = function(*numbers, *lists)
                self.assertEqual(lists, before)
                self.assertEqual(function(*numbers, *[Untouchable(one) for one in lists]), answer)
                self.assertIs(type(answer), list)
                self.assertEqual({type(number) for number in answer}, {int})

    def test_a_second_call_answers_like_the_first(self):
        for case in CASES:
            for function, numbers, lists in five_calls(*case):
                first = function(*numbers, *lists)
                again = list(first)
                # What was given back is the caller's own: it may be changed.
                first.append(0)
                self.assertEqual(function(*numbers, *lists), again)

    def test_one_after_the_other(self):
        calls = [call for case in CASES for call in five_calls(*case)]
        alone = [function(*numbers, *lists) for function, numbers, lists in calls]
        source = random.Random(13)
        for _ in range(4):
            order = list(range(len(calls)))
            source.shuffle(order)
            for place in order:
                function, numbers, lists = calls[place]
                self.assertEqual(function(*numbers, *lists), alone[place])

    def test_the_same_lists_for_all(self):
        # Against going through all choices, and so by another way than that of calls before.
        source = random.Random(14)
        for _ in range(150):
            register, wish, old = some_register(source)
            core = told_core(register, wish)
            expected = [
                [len(register.splitlines())], answered(told(register, wish)), answered(told(register, wish, old)),
                [len(core)] + core, answered(told_order(register, wish)),
            ]
            calls = list(zip(five_calls(register, wish, old), expected))
            source.shuffle(calls)
            for (function, numbers, lists), answer in calls:
                self.assertEqual(function(*numbers, *lists), answer)


class Together(unittest.TestCase):
    """What the answers of different functions have to do with one another."""

    def test_none_to_blame_where_there_is_a_choice(self):
        source = random.Random(15)
        for _ in range(300):
            register, wish, old = some_register(source)
            answers = {function: function(*numbers, *lists) for function, numbers, lists in five_calls(register, wish, old)}
            has_choice = answers[pk_core] == [0]
            for function in (pk_choose, pk_keep, pk_order):
                self.assertEqual(answers[function] != [-6], has_choice)

    def test_same_refusals(self):
        for case, most in itertools.product(CASES, (MOST, 3, 32769)):
            answers = {function: function(*numbers, *lists) for function, numbers, lists in five_calls(*case, most)}
            self.assertEqual(answers[pk_choose][0], answers[pk_order][0])
            if answers[pk_read][0] == -1:
                self.assertEqual(len(answers[pk_read]), 2)
                self.assertEqual(answers[pk_core], [-1])


if __name__ == "__main__":
    unittest.main()
