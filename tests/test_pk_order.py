"""Promise 5: pk_order."""

import itertools
import random
import unittest

from fitpick.registers import pk_choose, pk_order
from plain import MOST, Untouchable, hubs, in_order, letters, lines_of, pairs, places, rows, some_register, told_order


def order(register, wish, most=MOST):
    return pk_order(most, list(register.encode("latin-1")), list(wish.encode("latin-1")))


def choose(register, wish, most=MOST):
    return pk_choose(most, list(register.encode("latin-1")), list(wish.encode("latin-1")))


def wish_for(names):
    return " ".join(f"{name}:*" for name in names)


class PkOrderCase(unittest.TestCase):
    def ordered(self, register, wish, *lines):
        answer = order(register, wish)
        text = rows(*lines)
        self.assertEqual(answer, [len(text)] + list(text.encode()), (register, wish))
        self.assertIs(type(answer), list)
        self.assertEqual({type(number) for number in answer}, {int})
        self.same_lines(register, wish)

    def same_lines(self, register, wish):
        """Each of pk_choose's lines once, only in another order."""
        lines = bytes(order(register, wish)[1:]).splitlines(True)
        chosen = bytes(choose(register, wish)[1:]).splitlines(True)
        self.assertEqual(sorted(lines), sorted(chosen))

    def names(self, register, wish, *names):
        """Where every line is of version 1.0.0."""
        self.ordered(register, wish, *[f"{name} 1.0.0" for name in names])

    def web(self, needs, wish, *names):
        """needs: for each name those that it needs; whatever the order of the register is."""
        lines = [f"{name} 1.0.0" + "".join(f" {other}:*" for other in others) for name, others in needs.items()]
        source = random.Random(10)
        for _ in range(4):
            self.names(rows(*lines), wish_for(wish), *names)
            self.names(rows(*lines), wish_for(reversed(wish)), *names)
            source.shuffle(lines)

    def refused(self, number, register, wish, most=MOST):
        answer = order(register, wish, most)
        self.assertEqual(answer, [number], (register, wish, most))
        self.assertIs(type(answer[0]), int)


class Few(PkOrderCase):
    def test_no_wishes(self):
        self.assertEqual(order("", ""), [0])
        self.assertEqual(order("a 1.0.0", ""), [0])
        self.assertEqual(order(rows("a 1.0.0 b:*", "b 1.0.0 a:*", "c 1.0.0 gone:*"), ""), [0])

    def test_one_line(self):
        self.ordered("a 1.0.0", "a:*", "a 1.0.0")
        self.ordered(rows("b 1.0.0", "a 1.0.0", "a 3.0.0 gone:*", "a 2.0.0"), "a:*", "a 2.0.0")

    def test_lines_that_do_not_need_one_another(self):
        for names in itertools.permutations(("a", "ab", "abc", "b", "ba")):
            self.names(rows(*[f"{name} 1.0.0" for name in names]), "b:* abc:* a:* ba:* ab:*", "a", "ab", "abc", "b", "ba")
        for wish in itertools.permutations("abc"):
            self.names(rows("c 1.0.0", "a 1.0.0", "b 1.0.0"), wish_for(wish), "a", "b", "c")

    def test_letters_not_lengths_and_not_versions(self):
        register = rows("z 9.0.0", "zz 10.0.0", "az 1.0.0", "b 3.0.0", "aaaaaaaaaaaaaaaa 2.0.0")
        wish = wish_for(("z", "zz", "az", "b", "aaaaaaaaaaaaaaaa"))
        self.ordered(register, wish, "aaaaaaaaaaaaaaaa 2.0.0", "az 1.0.0", "b 3.0.0", "z 9.0.0", "zz 10.0.0")

    def test_text_as_it_stands(self):
        name = "abcdefghijklmnop"
        register = rows(f"{name} 100.20.3 z:*", "z 0.0.0")
        self.ordered(register, f"{name}:*", "z 0.0.0", f"{name} 100.20.3")
        self.ordered(register[:-1], f"{name}:*", "z 0.0.0", f"{name} 100.20.3")


class Chains(PkOrderCase):
    def test_chain(self):
        self.web({"a": "b", "b": "c", "c": "d", "d": ""}, "a", *"dcba")
        self.web({"d": "c", "c": "b", "b": "a", "a": ""}, "d", *"abcd")
        self.web({"b": "d", "d": "a", "a": "c", "c": ""}, "b", *"cadb")

    def test_waits_for_later_letters(self):
        self.web({"a": "z", "b": "", "z": ""}, "ab", *"bza")
        self.web({"a": "z", "b": "", "y": "", "z": "y"}, "ab", *"byza")

    def test_earlier_letters_at_once(self):
        self.web({"m": "a", "a": "", "b": ""}, "mb", *"abm")
        self.web({"m": "", "b": "m", "c": "", "n": ""}, "nbc", *"cmbn")

    def test_looked_at_anew_after_each_line(self):
        # As soon as x is there, a comes, ahead of y that could have come all the while.
        self.web({"a": "x", "x": "", "y": "", "z": ""}, "ayz", *"xayz")
        self.web({"a": "x", "b": "y", "x": "", "y": ""}, "ab", *"xayb")
        self.web({"a": "y", "b": "x", "x": "", "y": ""}, "ab", *"xbya")
        self.web({"a": "bz", "b": "c", "c": "", "z": "d", "d": ""}, "a", *"cbdza")

    def test_all_that_is_needed_is_there(self):
        self.web({"a": "xyz", "b": "", "x": "", "y": "", "z": ""}, "ab", *"bxyza")
        self.web({"a": "bc", "b": "d", "c": "d", "d": ""}, "a", *"dbca")

    def test_only_needs_of_the_chosen_version_count(self):
        register = rows("a 1.0.0 z:*", "a 2.0.0", "z 1.0.0 a:*", "z 2.0.0 b:*", "b 1.0.0")
        self.ordered(register, "a:* z:*", "a 2.0.0", "b 1.0.0", "z 2.0.0")
        self.ordered(register, "a:* z:<2.0.0", "a 2.0.0", "z 1.0.0")
        self.ordered(register, "z:* a:<2.0.0", "b 1.0.0", "z 2.0.0", "a 1.0.0")


class Rings(PkOrderCase):
    def test_two_that_need_each_other(self):
        self.web({"a": "b", "b": "a"}, "a", *"ab")
        self.web({"a": "b", "b": "a"}, "b", *"ab")
        self.web({"z": "b", "b": "z"}, "z", *"bz")

    def test_a_third_that_one_of_them_needs(self):
        # All of the ring wait for it, also the one that doesn't need it at once.
        self.web({"a": "b", "b": "ac", "c": ""}, "a", *"cab")
        self.web({"a": "bc", "b": "a", "c": ""}, "a", *"cab")
        self.web({"a": "b", "b": "az", "c": "", "z": ""}, "ac", *"czab")

    def test_ring_of_three_and_more(self):
        self.web({"a": "b", "b": "c", "c": "a"}, "a", *"abc")
        self.web({"a": "c", "b": "a", "c": "b"}, "b", *"abc")
        self.web({"d": "b", "b": "e", "e": "a", "a": "c", "c": "d"}, "e", *"abcde")
        self.web({"a": "b", "b": "cd", "c": "a", "d": "b", "z": "a"}, "z", *"abcdz")

    def test_one_of_the_ring_needs_something_outside(self):
        self.web({"a": "b", "b": "c", "c": "ax", "x": "y", "y": ""}, "a", *"yxabc")
        self.web({"d": "e", "e": "f", "f": "da", "a": "", "z": ""}, "dz", *"adefz")

    def test_two_rings_of_which_one_leads_to_the_other(self):
        self.web({"a": "b", "b": "ac", "c": "d", "d": "c"}, "a", *"cdab")
        self.web({"c": "d", "d": "ca", "a": "b", "b": "a"}, "c", *"abcd")
        self.web({"a": "c", "c": "ab", "b": "d", "d": "b"}, "a", *"bdac")

    def test_two_rings_side_by_side(self):
        self.web({"a": "c", "c": "a", "b": "d", "d": "b"}, "ab", *"abcd")
        # What lies between them by its letters comes between: c may come all the while.
        self.web({"a": "e", "e": "a", "c": ""}, "ac", *"ace")
        self.web({"a": "e", "e": "ax", "x": "", "c": ""}, "ac", *"cxae")

    def test_line_that_needs_its_own_name(self):
        self.web({"a": "a"}, "a", "a")
        self.web({"a": "ab", "b": "b"}, "a", *"ba")
        self.web({"a": "ab", "b": "ab", "c": "c"}, "ac", *"abc")

    def test_outside_a_ring_that_needs_one_of_it(self):
        # It waits for the whole ring, not only for the one that it needs.
        self.web({"b": "c", "c": "d", "d": "b", "a": "b"}, "a", *"bcda")
        self.web({"b": "d", "d": "b", "a": "b", "c": ""}, "ac", *"bcda")
        self.web({"x": "y", "y": "x", "a": "x", "b": "a"}, "b", *"xyab")

    def test_ring_in_a_ring(self):
        self.web({"a": "b", "b": "ac", "c": "bd", "d": "c"}, "a", *"abcd")
        self.web({"a": "bd", "b": "c", "c": "a", "d": "e", "e": "d"}, "a", *"deabc")


class Edges(PkOrderCase):
    REGISTER = rows("app 1.0.0 lib:*", "lib 10.2.33")
    LENGTH = len("app 1.0.0\nlib 10.2.33\n")

    def test_most(self):
        whole = order(self.REGISTER, "app:*")
        self.assertEqual(whole, [self.LENGTH] + list(b"lib 10.2.33\napp 1.0.0\n"))
        for most in (self.LENGTH, self.LENGTH + 1, 32767, 32768):
            self.assertEqual(order(self.REGISTER, "app:*", most), whole)
        for most in (0, 1, self.LENGTH - 1):
            self.refused(-5, self.REGISTER, "app:*", most)

    def test_most_with_an_empty_answer(self):
        for most in (0, 1, 32768):
            self.assertEqual(order(self.REGISTER, "", most), [0])
            self.assertEqual(order("", "", most), [0])

    def test_most_above(self):
        for most in (32769, 65536, 4294967295):
            self.refused(-2, self.REGISTER, "app:*", most)
            self.refused(-2, self.REGISTER, "", most)
            self.refused(-2, "", "", most)

    def test_eight_wishes_and_nine(self):
        register = rows(*[f"{letter} 1.0.0" for letter in "ihgfedcba"])
        self.names(register, wish_for("hgfedcba"), *"abcdefgh")
        self.refused(-1, register, wish_for("ihgfedcba"))

    def test_128_lines_and_129(self):
        register = rows(*[f"a 1.{k // 100}.{k % 100} b:*" for k in range(127)], "b 1.0.0")
        self.ordered(register, "a:*", "b 1.0.0", "a 1.1.26")
        self.refused(-1, register + "c 1.0.0", "a:*")


class Refusals(PkOrderCase):
    def test_1_alone(self):
        for register in ("\n", "a", "a 1.0", "a 1.0.0\na 1.0.0", "A 1.0.0", "a 1.0.0 b", "a 1.0.0 ", "a 1.0.0" + " b:*" * 9):
            for wish in ("", "a:*", "gone:*"):
                self.refused(-1, register, wish)
        for wish in ("a", "a:", ":*", "a:1.0.0", "a:*  a:*", " a:*", "a:* ", "a:*&*&*&*&*", "a:*\n", "\xff", " "):
            for register in ("", "a 1.0.0"):
                self.refused(-1, register, wish)

    def test_6_alone(self):
        for register, wish in (
            ("", "a:*"), ("a 1.0.0", "b:*"), ("a 1.0.0", "a:=2.0.0"), ("a 1.0.0 gone:*", "a:*"), ("a 1.0.0", "a:* b:*"),
            (rows("a 1.0.0 b:*", "b 1.0.0 a:=2.0.0"), "a:*"), (rows("a 1.0.0", "a 2.0.0"), "a:=1.0.0 a:=2.0.0"),
        ):
            self.refused(-6, register, wish)

    def test_2_over_all(self):
        for most in (32769, 4294967295):
            self.refused(-2, "a", "a:*", most)
            self.refused(-2, "a 1.0.0", "a", most)
            self.refused(-2, "a 1.0.0", "gone:*", most)
            self.refused(-2, "a 1.0.0", "a:*", most)

    def test_1_over_6_and_5(self):
        self.refused(-1, "a 1.0.0 gone:*\nb 1.0", "a:*")
        self.refused(-1, "a 1.0.0", "gone:* a")
        self.refused(-1, "a 1.0.0", "gone:* a", 0)
        self.refused(-1, "a 1.0.0\nb", "a:*", 0)
        self.refused(-1, "a 1.0.0", "a:* a", 0)
        self.refused(-1, "a 1.0.0\na 1.0.0", "", 0)

    def test_6_over_5(self):
        for most in (0, 1, 32768):
            self.refused(-6, "a 1.0.0", "gone:*", most)
            self.refused(-6, "a 1.0.0", "a:* gone:*", most)
            self.refused(-6, "a 1.0.0 gone:*", "a:*", most)


class AllThrough(PkOrderCase):
    def test_small_registers_against_going_through_all(self):
        source = random.Random(11)
        for _ in range(1000):
            register, wish, _ = some_register(source)
            text = told_order(register, wish)
            if text is None:
                self.refused(-6, register, wish)
            else:
                self.ordered(register, wish, *text.splitlines())

    def test_webs_against_another_way(self):
        # One version each, all wished for: so it's the order alone that is tried.
        source = random.Random(12)
        for _ in range(400):
            names = source.sample("a b ab ba aa bb c ca d e f g".split(), source.randint(2, 12))
            share = source.choice((0.05, 0.1, 0.2))
            needs = {name: [other for other in names if source.random() < share][:8] for name in names}
            lines = [f"{name} 1.0.0" + "".join(f" {other}:*" for other in needs[name]) for name in names]
            tops, wish = hubs(names)
            register = rows(*lines, *tops)
            chosen = {line[0]: line for line in lines_of(register)}
            self.names(register, wish, *in_order(chosen))


class Many(PkOrderCase):
    def test_long_chains(self):
        names = [letters(k) for k in range(128)]
        falling = [f"{names[k]} 1.0.0 {names[k + 1]}:*" for k in range(127)] + [f"{names[127]} 1.0.0"]
        self.names(rows(*falling), "aa:*", *reversed(names))
        self.names(rows(*reversed(falling)), "aa:*", *reversed(names))
        rising = [f"{names[k + 1]} 1.0.0 {names[k]}:*" for k in range(127)] + [f"{names[0]} 1.0.0"]
        self.names(rows(*rising), f"{names[127]}:*", *names)

    def test_large_rings(self):
        names = [letters(k) for k in range(128)]
        for step in (1, 3, 127):
            lines = [f"{names[k]} 1.0.0 {names[(k + step) % 128]}:*" for k in range(128)]
            self.names(rows(*lines), f"{names[77]}:*", *names)
        # With a tail that the ring needs, and a tail that needs the ring.
        ring = [f"{names[k]} 1.0.0 {names[20 + (k - 19) % 80]}:*" for k in range(20, 100)]
        ahead = [f"{names[k]} 1.0.0 {names[k + 1]}:*" for k in range(20)]
        behind = [f"{names[k]} 1.0.0 {names[k + 1]}:*" for k in range(100, 127)] + [f"{names[127]} 1.0.0"]
        lines = ahead + ring[:30] + [f"{ring[30]} {names[100]}:*"] + ring[31:] + behind
        expected = list(reversed(names[100:])) + names[20:100] + list(reversed(names[:20]))
        self.names(rows(*lines), "aa:*", *expected)

    def test_rings_in_a_row(self):
        names = [letters(k) for k in range(126)]
        lines = []
        for k in range(0, 126, 3):
            more = f" {names[k + 3]}:*" if k + 3 < 126 else ""
            lines += [f"{names[k]} 1.0.0 {names[k + 1]}:*", f"{names[k + 1]} 1.0.0 {names[k + 2]}:*{more}"]
            lines.append(f"{names[k + 2]} 1.0.0 {names[k]}:*")
        expected = [names[k + j] for k in reversed(range(0, 126, 3)) for j in range(3)]
        self.names(rows(*lines), "aa:*", *expected)

    def test_many_needs_each(self):
        names = [letters(k) for k in range(128)]
        lines = []
        for k, name in enumerate(names):
            lines.append(" ".join([f"{name} 1.0.0"] + [f"{other}:*" for other in names[k + 1:k + 9]]))
        self.names(rows(*lines), "aa:*", *reversed(names))
        lines[-1] += f" {names[0]}:*"
        self.names(rows(*lines), "aa:*", *names)

    def test_many_versions(self):
        for case in (places(8, 8), pairs(10)):
            lines = [line for line in lines_of(case[0])]
            whole = {line[:2]: line for line in lines}
            chosen = {line[0]: whole[line[:2]] for line in lines_of(bytes(choose(*case)[1:]).decode())}
            expected = [f"{name} {'.'.join(map(str, chosen[name][1]))}" for name in in_order(chosen)]
            self.ordered(*case, *expected)


class Calls(PkOrderCase):
    REGISTER = rows("app 1.0.0 lib:*", "lib 1.0.0 log:*", "log 1.0.0 lib:*", "log 2.0.0 gone:*")
    CASES = (
        ("", "", MOST), (REGISTER, "app:*", MOST), (REGISTER, "log:* app:*", 5), (REGISTER, "log:>2.0.0", MOST),
        ("a", "a:*", MOST), ("a 1.0.0", "a:* ", MOST), ("a 1.0.0", "a:*", 32769), ("a 1.0.0\na 2.0.0 a:*", "a:*", MOST),
    )

    def test_what_is_handed_in_stays(self):
        for register, wish, most in self.CASES:
            b = list(register.encode())
            wishes = list(wish.encode())
            answer = pk_order(most, b, wishes)
            self.assertEqual(b, list(register.encode()))
            self.assertEqual(wishes, list(wish.encode()))
            self.assertEqual(pk_order(most, Untouchable(b), Untouchable(wishes)), answer)

    def test_a_second_call_answers_like_the_first(self):
        for case in self.CASES:
            for between in self.CASES:
                first = order(*case)
                again = list(first)
                order(*between)
                second = order(*case)
                self.assertEqual(second, again)
                # What was given back is the caller's own: it may be changed.
                second.append(0)
                self.assertEqual(order(*case), again)


if __name__ == "__main__":
    unittest.main()
