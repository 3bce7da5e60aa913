"""Promise 2: pk_choose."""

import itertools
import random
import unittest

from fitpick.registers import pk_choose
from plain import (
    MOST, Untouchable, falling, fits, hubs, letters, pairs, places, rows, some_register, told, version_of,
)


def choose(register, wish, most=MOST):
    return pk_choose(most, list(register.encode("latin-1")), list(wish.encode("latin-1")))


class PkChooseCase(unittest.TestCase):
    def chosen(self, register, wish, *lines):
        answer = choose(register, wish)
        text = rows(*lines)
        self.assertEqual(answer, [len(text)] + list(text.encode()), (register, wish))
        self.assertIs(type(answer), list)
        self.assertEqual({type(number) for number in answer}, {int})

    def none(self, register, wish):
        self.refused(-6, register, wish)

    def refused(self, number, register, wish, most=MOST):
        answer = choose(register, wish, most)
        self.assertEqual(answer, [number], (register, wish, most))
        self.assertIs(type(answer[0]), int)


class Wishes(PkChooseCase):
    REGISTER = rows("a 1.0.0", "a 2.0.0", "b 1.0.0", "b 2.0.0 c:*", "c 3.0.0", "d 1.0.0 a:=1.0.0")

    def test_no_wishes(self):
        self.assertEqual(choose("", ""), [0])
        self.assertEqual(choose(self.REGISTER, ""), [0])
        self.assertEqual(choose("a 1.0.0 gone:*", ""), [0])

    def test_one(self):
        self.chosen(self.REGISTER, "a:*", "a 2.0.0")
        self.chosen(self.REGISTER, "a:<2.0.0", "a 1.0.0")
        self.chosen(self.REGISTER, "b:*", "b 2.0.0", "c 3.0.0")
        self.chosen("a 1.0.0", "a:*", "a 1.0.0")

    def test_several(self):
        self.chosen(self.REGISTER, "a:* c:*", "a 2.0.0", "c 3.0.0")
        self.chosen(self.REGISTER, "a:* d:*", "a 1.0.0", "d 1.0.0")
        self.chosen(self.REGISTER, "d:* b:<2.0.0 c:*", "a 1.0.0", "b 1.0.0", "c 3.0.0", "d 1.0.0")

    def test_same_name_twice(self):
        self.chosen(self.REGISTER, "a:* a:*", "a 2.0.0")
        self.chosen(self.REGISTER, "a:<2.0.0 a:*", "a 1.0.0")
        self.chosen(self.REGISTER, "a:* a:<2.0.0", "a 1.0.0")
        self.chosen(self.REGISTER, "a:>1.0.0 b:* a:<2.0.0", "a 1.0.0", "b 2.0.0", "c 3.0.0")
        self.none(self.REGISTER, "a:=1.0.0 a:=2.0.0")
        self.none(self.REGISTER, "a:<2.0.0 b:* a:>2.0.0")

    def test_name_that_is_not_there(self):
        self.none("", "a:*")
        self.none(self.REGISTER, "gone:*")
        self.none(self.REGISTER, "a:* gone:*")
        self.none(self.REGISTER, "gone:* a:*")
        self.none("ab 1.0.0", "a:*")
        self.none("a 1.0.0", "ab:*")

    def test_version_that_is_not_there(self):
        self.none(self.REGISTER, "a:=1.5.0")
        self.none(self.REGISTER, "a:>2.0.1")
        self.none(self.REGISTER, "a:<1.0.0")
        self.none(self.REGISTER, "c:* a:>3.0.0")

    def test_eight(self):
        register = rows(*[f"{letter} {k}.0.0" for k, letter in enumerate("hgfedcba")])
        self.chosen(register, " ".join(f"{letter}:*" for letter in "abcdefgh"), *register.splitlines())
        self.chosen(register, "a:* " * 7 + "h:*", "h 0.0.0", "a 7.0.0")
        self.none(register, "a:* " * 7 + "h:>1.0.0")


class Needs(PkChooseCase):
    def test_need_that_leads_to_another(self):
        register = rows("a 1.0.0 b:*", "b 1.0.0 c:*", "c 1.0.0 d:*", "d 1.0.0", "e 1.0.0")
        self.chosen(register, "a:*", "a 1.0.0", "b 1.0.0", "c 1.0.0", "d 1.0.0")
        self.chosen(register, "c:*", "c 1.0.0", "d 1.0.0")
        self.none(rows("a 1.0.0 b:*", "b 1.0.0 c:*", "c 1.0.0 d:>2.0.0", "d 1.0.0"), "a:*")

    def test_range_of_a_need(self):
        register = rows("a 1.0.0 b:<3.0.0", "b 1.0.0", "b 2.0.0", "b 3.0.0")
        self.chosen(register, "a:*", "a 1.0.0", "b 2.0.0")
        self.chosen(register, "a:* b:=1.0.0", "a 1.0.0", "b 1.0.0")
        self.none(register, "a:* b:=3.0.0")

    def test_every_need_is_met(self):
        for place in range(8):
            needs = ["b:*"] * 8
            needs[place] = "b:<2.0.0"
            register = rows("a 1.0.0 " + " ".join(needs), "b 1.0.0", "b 2.0.0")
            self.chosen(register, "a:*", "a 1.0.0", "b 1.0.0")
            self.none(register, "a:* b:>2.0.0")

    def test_same_name_needed_twice(self):
        self.chosen(rows("a 1.0.0 b:>2.0.0 b:<3.0.0", "b 1.0.0", "b 2.0.0", "b 3.0.0"), "a:*", "a 1.0.0", "b 2.0.0")
        self.none(rows("a 1.0.0 b:>2.0.0 b:<2.0.0", "b 1.0.0", "b 2.0.0"), "a:*")
        register = rows("a 1.0.0 c:* d:*", "c 1.0.0 x:<3.0.0", "d 1.0.0 x:>2.0.0", "x 1.0.0", "x 2.5.0", "x 3.0.0")
        self.chosen(register, "a:*", "a 1.0.0", "c 1.0.0", "d 1.0.0", "x 2.5.0")

    def test_lines_that_need_each_other(self):
        register = rows("a 1.0.0 b:*", "b 1.0.0 a:*", "c 1.0.0 d:*", "d 1.0.0 c:*")
        self.chosen(register, "a:*", "a 1.0.0", "b 1.0.0")
        self.chosen(register, "b:*", "a 1.0.0", "b 1.0.0")
        self.assertEqual(choose(register, ""), [0])
        three = rows("a 1.0.0 b:=2.0.0", "a 2.0.0 b:=1.0.0", "b 1.0.0 c:*", "b 2.0.0 a:*", "c 1.0.0 a:=1.0.0")
        self.chosen(three, "a:*", "a 1.0.0", "b 2.0.0")
        self.none(rows("a 1.0.0 b:*", "b 1.0.0 a:=2.0.0"), "a:*")

    def test_line_that_needs_its_own_name(self):
        for parts in ("*", "=1.0.0", "^1.0.0", "<2.0.0&>1.0.0"):
            self.chosen(f"a 1.0.0 a:{parts}", "a:*", "a 1.0.0")
        for parts in ("=2.0.0", "<1.0.0", ">1.0.1", "*&=1.0.1"):
            self.none(f"a 1.0.0 a:{parts}", "a:*")
            self.none(rows(f"a 1.0.0 a:{parts}", "b 1.0.0 a:*"), "b:*")
        self.chosen(rows("a 1.0.0", "a 2.0.0 a:=1.0.0"), "a:*", "a 1.0.0")
        self.none(rows("a 1.0.0 a:=2.0.0", "a 2.0.0 a:=1.0.0"), "a:*")
        self.chosen(rows("b 1.0.0 a:*", "a 1.0.0", "a 2.0.0 a:<2.0.0"), "b:*", "b 1.0.0", "a 1.0.0")

    def test_line_that_needs_a_name_that_is_not_there(self):
        self.none("a 1.0.0 gone:*", "a:*")
        self.chosen(rows("a 1.0.0", "a 2.0.0 gone:*"), "a:*", "a 1.0.0")
        self.none(rows("a 1.0.0 b:*", "b 1.0.0 c:*", "c 1.0.0 gone:*"), "a:*")
        self.chosen(rows("a 1.0.0 b:*", "b 1.0.0", "b 2.0.0 c:*", "c 1.0.0 gone:*"), "a:*", "a 1.0.0", "b 1.0.0")
        self.chosen(rows("a 1.0.0", "b 1.0.0 gone:*"), "a:*", "a 1.0.0")


class Ranges(PkChooseCase):
    # Of each range, which of these fit.
    VERSIONS = (
        "0.0.0 0.0.1 0.0.2 0.1.0 0.1.1 0.2.0 0.2.1 0.3.0 1.0.0 1.1.9 1.2.2 1.2.3 1.2.4 1.2.10 1.3.0 1.10.0 2.0.0 2.2.3 "
        "10.0.0 999.999.999"
    ).split()
    FITTING = {
        "*": VERSIONS,
        "=1.2.3": ["1.2.3"],
        "=1.2.5": [],
        ">1.2.3": VERSIONS[VERSIONS.index("1.2.3"):],
        ">1.2.5": VERSIONS[VERSIONS.index("1.2.10"):],
        ">0.0.0": VERSIONS,
        ">999.999.999": ["999.999.999"],
        "<1.2.3": VERSIONS[:VERSIONS.index("1.2.3")],
        "<1.2.5": VERSIONS[:VERSIONS.index("1.2.10")],
        "<0.0.0": [],
        "<0.0.1": ["0.0.0"],
        "~1.2.3": ["1.2.3", "1.2.4", "1.2.10"],
        "~1.2.4": ["1.2.4", "1.2.10"],
        "~1.2.11": [],
        "~0.0.0": ["0.0.0", "0.0.1", "0.0.2"],
        "~0.0.1": ["0.0.1", "0.0.2"],
        "~0.1.0": ["0.1.0", "0.1.1"],
        "~999.999.999": ["999.999.999"],
        "^1.2.3": ["1.2.3", "1.2.4", "1.2.10", "1.3.0", "1.10.0"],
        "^1.0.0": ["1.0.0", "1.1.9", "1.2.2", "1.2.3", "1.2.4", "1.2.10", "1.3.0", "1.10.0"],
        "^2.0.0": ["2.0.0", "2.2.3"],
        "^999.0.0": ["999.999.999"],
        "^0.1.0": ["0.1.0", "0.1.1"],
        "^0.2.1": ["0.2.1"],
        "^0.2.2": [],
        "^0.0.1": ["0.0.1"],
        "^0.0.0": ["0.0.0"],
        "^0.0.3": [],
        ">1.2.3&<1.3.0": ["1.2.3", "1.2.4", "1.2.10"],
        "<2.0.0&>1.3.0": ["1.3.0", "1.10.0"],
        "^1.0.0&~1.2.0": ["1.2.2", "1.2.3", "1.2.4", "1.2.10"],
        "^1.0.0&^2.0.0": [],
        "*&=0.1.0": ["0.1.0"],
        "=0.1.0&*": ["0.1.0"],
        "=0.1.0&=0.1.1": [],
        ">0.1.0&<9.0.0&~1.2.0&^1.2.4": ["1.2.4", "1.2.10"],
        "<1.2.4&>0.1.0&*&>1.2.2": ["1.2.2", "1.2.3"],
        ">1.0.0&>1.1.0&>2.0.0&<10.0.0": ["2.0.0", "2.2.3"],
        ">2.0.0&<2.0.0": [],
    }

    def test_each_range_against_each_version(self):
        for parts, fitting in self.FITTING.items():
            for version in self.VERSIONS:
                wished = choose(f"a {version}", f"a:{parts}")
                needed = choose(rows(f"b 1.0.0 a:{parts}", f"a {version}"), "b:*")
                self.assertEqual(wished[0] > 0, version in fitting, (parts, version))
                self.assertEqual(needed[0] > 0, version in fitting, (parts, version))

    def test_the_greatest_that_fits(self):
        register = rows(*[f"a {version}" for version in self.VERSIONS])
        for parts, fitting in self.FITTING.items():
            if fitting:
                self.chosen(register, f"a:{parts}", f"a {fitting[-1]}")
            else:
                self.none(register, f"a:{parts}")

    def test_small_numbers_all_through(self):
        versions = [".".join(numbers) for numbers in itertools.product("012", repeat=3)]
        for sign in "=><~^":
            for own in versions:
                fitting = [version for version in versions if fits(sign + own, version_of(version))]
                register = rows(*[f"a {version}" for version in versions])
                for bound in versions:
                    below = [version for version in fitting if version_of(version) < version_of(bound)]
                    if below:
                        self.chosen(register, f"a:{sign}{own}&<{bound}", f"a {below[-1]}")
                    else:
                        self.none(register, f"a:{sign}{own}&<{bound}")

    def test_large_numbers(self):
        register = rows("a 99.0.0", "a 100.0.0", "a 999.9.0", "a 999.10.0", "a 999.10.99", "a 999.10.100")
        self.chosen(register, "a:*", "a 999.10.100")
        self.chosen(register, "a:<999.10.100", "a 999.10.99")
        self.chosen(register, "a:<999.10.0", "a 999.9.0")
        self.chosen(register, "a:<999.9.0", "a 100.0.0")
        self.chosen(register, "a:<100.0.0", "a 99.0.0")
        self.chosen("a 999.999.999", "a:^999.999.999&~999.999.999&=999.999.999&>999.999.999", "a 999.999.999")


class Best(PkChooseCase):
    def test_greater_version(self):
        self.chosen(rows("a 9.0.0", "a 10.0.0", "a 2.0.0"), "a:*", "a 10.0.0")
        self.chosen(rows("a 1.10.0", "a 1.9.0", "a 1.2.99"), "a:*", "a 1.10.0")
        self.chosen(rows("a 1.0.9", "a 1.0.10", "a 0.99.99"), "a:*", "a 1.0.10")
        self.chosen(rows("a 2.0.0", "a 1.99.99"), "a:*", "a 2.0.0")
        self.chosen(rows("b 1.0.0 a:*", "a 10.0.0", "a 9.0.0"), "b:*", "b 1.0.0", "a 10.0.0")

    def test_order_of_the_wishes(self):
        register = rows("a 1.0.0", "a 2.0.0 b:=1.0.0", "b 1.0.0", "b 2.0.0 a:=1.0.0")
        self.chosen(register, "a:* b:*", "a 2.0.0", "b 1.0.0")
        self.chosen(register, "b:* a:*", "a 1.0.0", "b 2.0.0")
        self.chosen(register, "b:* a:* b:*", "a 1.0.0", "b 2.0.0")
        self.chosen(register, "a:* b:* b:* a:*", "a 2.0.0", "b 1.0.0")

    def test_wished_before_others(self):
        register = rows("z 1.0.0 a:=2.0.0", "z 2.0.0 a:=1.0.0", "a 1.0.0", "a 2.0.0")
        self.chosen(register, "z:*", "z 2.0.0", "a 1.0.0")
        self.chosen(register, "a:* z:*", "z 1.0.0", "a 2.0.0")

    def test_others_by_their_letters(self):
        for low, high in (("a", "b"), ("a", "ab"), ("ab", "abc"), ("ab", "b"), ("az", "b"), ("abz", "ac"), ("b", "ba")):
            for first, second in ((low, high), (high, low)):
                # Whichever of the two has the greater version, the other has the less.
                register = rows(
                    f"m 1.0.0 {first}:* {second}:*", f"{first} 1.0.0", f"{first} 2.0.0 {second}:=1.0.0",
                    f"{second} 1.0.0", f"{second} 2.0.0 {first}:=1.0.0",
                )
                lines = [row.split(" ") for row in register.splitlines()]
                wanted = [("m", "1.0.0"), (low, "2.0.0"), (high, "1.0.0")]
                self.chosen(register, "m:*", *[f"{x[0]} {x[1]}" for x in lines if (x[0], x[1]) in wanted])

    def test_not_chosen_is_better(self):
        register = rows("m 1.0.0 x:*", "x 1.0.0", "x 2.0.0 b:*", "b 1.0.0")
        # b comes ahead of x, and with b it's a worse choice however great the version of x.
        self.chosen(register, "m:*", "m 1.0.0", "x 1.0.0")
        self.chosen(register, "x:* m:*", "m 1.0.0", "x 2.0.0", "b 1.0.0")
        other = rows("m 1.0.0 b:*", "b 1.0.0", "b 2.0.0 x:*", "x 1.0.0")
        self.chosen(other, "m:*", "m 1.0.0", "b 2.0.0", "x 1.0.0")
        # Without a is better than with it, without b doesn't count any more.
        two = rows("m 1.0.0 c:*", "c 1.0.0 b:*", "c 2.0.0 a:*", "a 9.0.0", "b 1.0.0")
        self.chosen(two, "m:*", "m 1.0.0", "c 1.0.0", "b 1.0.0")

    def test_best_first_forces_lower_later(self):
        register = rows("a 1.0.0", "a 2.0.0 b:<2.0.0", "b 1.0.0 c:<2.0.0", "b 2.0.0", "c 1.0.0", "c 2.0.0")
        self.chosen(register, "a:* b:* c:*", "a 2.0.0", "b 1.0.0", "c 1.0.0")
        self.chosen(register, "b:* a:* c:*", "a 1.0.0", "b 2.0.0", "c 2.0.0")
        self.chosen(register, "c:* a:* b:*", "a 1.0.0", "b 2.0.0", "c 2.0.0")
        self.chosen(register, "c:<2.0.0 a:* b:*", "a 2.0.0", "b 1.0.0", "c 1.0.0")

    def test_going_back(self):
        # The greatest a can only be seen to be wrong at e.
        register = rows(
            "a 1.0.0 b:*", "a 2.0.0 b:*", "b 1.0.0 c:*", "b 2.0.0 c:*", "c 1.0.0 d:*", "c 2.0.0 d:*",
            "d 1.0.0 e:*", "d 2.0.0 e:*", "e 1.0.0 a:<2.0.0 c:<2.0.0",
        )
        self.chosen(register, "a:*", "a 1.0.0", "b 2.0.0", "c 1.0.0", "d 2.0.0", "e 1.0.0")
        # Back by two: b 2 and c 2 each fit a 2, but not together with d.
        other = rows(
            "a 1.0.0 b:* c:* d:*", "b 1.0.0", "b 2.0.0 c:>2.0.0", "b 3.0.0 c:=1.0.0", "c 1.0.0 d:=2.0.0",
            "c 2.0.0 d:=1.0.0", "d 1.0.0", "d 2.0.0 b:<3.0.0",
        )
        self.chosen(other, "a:*", "a 1.0.0", "b 2.0.0", "c 2.0.0", "d 1.0.0")

    def test_a_lower_version_without_the_need(self):
        register = rows("a 3.0.0 b:>3.0.0", "a 2.0.0 b:=2.0.0 c:*", "a 1.0.0", "b 2.0.0 c:>2.0.0", "c 1.0.0")
        self.chosen(register, "a:*", "a 1.0.0")
        self.none(register, "a:>2.0.0")


class NothingElse(PkChooseCase):
    def test_nothing_that_nobody_needs(self):
        register = rows("a 1.0.0 b:*", "a 2.0.0", "b 1.0.0 c:*", "c 1.0.0", "d 1.0.0 a:*")
        self.chosen(register, "a:*", "a 2.0.0")
        self.chosen(register, "a:<2.0.0", "a 1.0.0", "b 1.0.0", "c 1.0.0")
        self.chosen(register, "b:*", "b 1.0.0", "c 1.0.0")
        self.chosen(register, "c:*", "c 1.0.0")

    def test_not_even_those_that_need_each_other(self):
        register = rows("a 1.0.0", "b 1.0.0 c:*", "c 1.0.0 b:*", "d 1.0.0 d:*", "e 1.0.0 a:* b:*")
        self.chosen(register, "a:*", "a 1.0.0")
        self.chosen(register, "d:*", "d 1.0.0")

    def test_of_each_name_one_at_most(self):
        register = rows("a 1.0.0 x:=1.0.0", "b 1.0.0 x:=2.0.0", "x 1.0.0", "x 2.0.0")
        self.chosen(register, "a:*", "a 1.0.0", "x 1.0.0")
        self.none(register, "a:* b:*")


class Text(PkChooseCase):
    def test_in_the_order_of_the_register(self):
        lines = ["c 1.0.0", "a 1.0.0 d:*", "b 1.0.0", "d 1.0.0"]
        for order in itertools.permutations(lines):
            heads = [" ".join(line.split(" ")[:2]) for line in order]
            for wish in ("a:* b:* c:*", "c:* b:* a:*", "b:* a:* c:* d:*"):
                self.chosen(rows(*order), wish, *heads)

    def test_last_line_ended_or_not(self):
        self.chosen("a 1.0.0\nb 1.0.0", "b:* a:*", "a 1.0.0", "b 1.0.0")
        self.chosen("a 1.0.0\nb 1.0.0\n", "b:* a:*", "a 1.0.0", "b 1.0.0")

    def test_name_and_version_as_they_stand(self):
        name = "abcdefghijklmnop"
        self.chosen(rows(f"{name} 100.20.3 z:*", "z 0.0.0"), f"z:* {name}:*", f"{name} 100.20.3", "z 0.0.0")
        self.chosen("z 999.0.10", "z:*", "z 999.0.10")


class Edges(PkChooseCase):
    REGISTER = rows("app 1.0.0 lib:*", "lib 10.2.33")
    LENGTH = len("app 1.0.0\nlib 10.2.33\n")

    def test_most(self):
        whole = choose(self.REGISTER, "app:*")
        self.assertEqual(whole[0], self.LENGTH)
        for most in (self.LENGTH, self.LENGTH + 1, 32767, 32768):
            self.assertEqual(choose(self.REGISTER, "app:*", most), whole)
        for most in (0, 1, self.LENGTH - 1):
            self.refused(-5, self.REGISTER, "app:*", most)

    def test_most_with_an_empty_answer(self):
        for most in (0, 1, 32768):
            self.assertEqual(choose(self.REGISTER, "", most), [0])
            self.assertEqual(choose("", "", most), [0])

    def test_most_above(self):
        for most in (32769, 65536, 4294967295):
            self.refused(-2, self.REGISTER, "app:*", most)
            self.refused(-2, self.REGISTER, "", most)
            self.refused(-2, "", "", most)

    def test_nine_wishes(self):
        register = rows(*[f"{letter} 1.0.0" for letter in "abcdefghi"])
        self.assertEqual(choose(register, " ".join(f"{letter}:*" for letter in "abcdefgh"))[0], 64)
        self.refused(-1, register, " ".join(f"{letter}:*" for letter in "abcdefghi"))
        self.refused(-1, register, " ".join(["a:*"] * 9))

    def test_spaces(self):
        register = rows("a 1.0.0", "b 1.0.0")
        self.chosen(register, "a:* b:*", "a 1.0.0", "b 1.0.0")
        for wish in ("a:*  b:*", " a:*", "a:* ", " a:* b:*", "a:* b:* ", " ", "  "):
            self.refused(-1, register, wish)
        for wish in ("a:*\tb:*", "a:*\nb:*", "a:*\n", "\n"):
            self.refused(-1, register, wish)
        self.refused(-1, register, "a:* " * 8)

    def test_long_wishes(self):
        part = ">999.999.998"
        need = "a" * 16 + ":" + "&".join([part] * 4)
        wish = " ".join([need] * 8)
        self.assertLessEqual(len(wish), 1024)
        self.chosen(f"{'a' * 16} 999.999.999", wish, f"{'a' * 16} 999.999.999")
        self.refused(-1, "a 1.0.0", "a" * 1024)
        self.refused(-1, "a 1.0.0", "a:" + "*&" * 511)

    def test_128_lines_and_129(self):
        register = rows(*[f"a 1.{k // 100}.{k % 100}" for k in range(128)])
        self.chosen(register, "a:*", "a 1.1.27")
        self.chosen(register[:-1], "a:<1.1.27", "a 1.1.26")
        self.refused(-1, register + "b 1.0.0", "a:*")
        self.refused(-1, register + "b 1.0.0\n", "")


class Refusals(PkChooseCase):
    WRONG_REGISTERS = (
        "\n", "a", "a 1.0", "a 1.0.0\na 1.0.0", "A 1.0.0", "a 1.0.0 b", "a 1.0.0 b:1.0.0", "a 1.0.0 ", " a 1.0.0",
        "a  1.0.0", "a 01.0.0", "a 1.0.0\n\nb 1.0.0", "a 1.0.0" + " b:*" * 9, "a 1.0.0\r\n", "a" * 17 + " 1.0.0",
    )
    WRONG_WISHES = (
        "a", "a:", ":*", "a:1.0.0", "a:=1.0", "a:=01.0.0", "A:*", "a:**", "a:*&", "a:&*", "a:*&*&*&*&*", "a:*:*",
        "a::*", "a:=1.0.0.0", "a:=1000.0.0", "a" * 17 + ":*", "a 1.0.0", "a:* b", "b a:*", "a:*,b:*", "a:>=1.0.0",
        "a:!1.0.0", "a: *", "a1:*", "\x00", "\xff",
    )

    def test_wrong_registers(self):
        for register in self.WRONG_REGISTERS:
            for wish in ("", "a:*", "gone:*"):
                self.refused(-1, register, wish)

    def test_wrong_wishes(self):
        for wish in self.WRONG_WISHES:
            for register in ("", "a 1.0.0", "b 1.0.0"):
                self.refused(-1, register, wish)
            for place in range(8):
                wishes = ["a:*"] * 8
                wishes[place] = wish
                self.refused(-1, "a 1.0.0", " ".join(wishes))

    def test_every_byte_in_a_wish(self):
        for byte in range(256):
            sign = bytes([byte]).decode("latin-1")
            if sign not in "abcdefghijklmnopqrstuvwxyz":
                self.refused(-1, "a 1.0.0", f"a{sign}:*")
            if sign != "*":
                self.refused(-1, "a 1.0.0", f"a:{sign}")

    def test_2_over_1_and_6(self):
        for most in (32769, 4294967295):
            self.refused(-2, "a", "a:*", most)
            self.refused(-2, "a 1.0.0", "a", most)
            self.refused(-2, "a 1.0.0", "b:*", most)
            self.refused(-2, "a 1.0.0", "a:*", most)

    def test_1_over_6_and_5(self):
        # What is wrong stands behind what alone would be another refusal.
        self.refused(-1, "a 1.0.0 gone:*\nb 1.0", "a:*")
        self.refused(-1, "a 1.0.0", "gone:* a")
        self.refused(-1, "a 1.0.0", "gone:* a", 0)
        self.refused(-1, "a 1.0.0\nb", "a:*", 0)
        self.refused(-1, "a 1.0.0", "a:* a", 0)
        self.refused(-1, "a 1.0.0\na 1.0.0", "", 0)

    def test_6_over_5(self):
        for most in (0, 1, 32768):
            self.refused(-6, "a 1.0.0", "gone:*", most)
            self.refused(-6, "a 1.0.0", "a:* gone:*", most)
            self.refused(-6, "a 1.0.0 gone:*", "a:*", most)


class AllThrough(PkChooseCase):
    def test_small_registers_against_going_through_all(self):
        source = random.Random(2)
        for _ in range(1500):
            register, wish, _ = some_register(source)
            text = told(register, wish)
            if text is None:
                self.none(register, wish)
            else:
                self.chosen(register, wish, *text.splitlines())


class Many(PkChooseCase):
    """Registers where trying one choice after the other would never end."""

    def test_long_chain(self):
        lines = [f"{letters(k)} 1.0.0 {letters(k + 1)}:*" for k in range(127)] + [f"{letters(127)} 1.0.0"]
        self.chosen(rows(*lines), "aa:*", *[line[:8] for line in lines])
        self.none(rows(*lines[:127], f"{letters(127)} 1.0.0 aa:>2.0.0"), "aa:*")

    def test_long_circle(self):
        lines = [f"{letters(k)} 1.0.0 {letters((k + 1) % 128)}:*" for k in range(128)]
        self.chosen(rows(*lines), f"{letters(77)}:*", *[line[:8] for line in lines])

    def test_two_versions_each_and_the_last_decides(self):
        lines = []
        for k in range(63):
            lines += [f"{letters(k)} {v}.0.0 {letters(k + 1)}:={v}.0.0" for v in (1, 2)]
        register = rows(*lines, f"{letters(63)} 1.0.0")
        self.chosen(register, "aa:*", *[f"{letters(k)} 1.0.0" for k in range(64)])
        self.none(register, "aa:>2.0.0")

    def test_what_lies_between_has_no_part_in_it(self):
        # a 2 and z don't fit together, and of the forty names tried between them any version will do.
        names = [letters(k) + "x" for k in range(40)]
        lines, wish = hubs(names)
        lines += [f"{name} {v}.0.0" for name in names for v in (1, 2)]
        lines += ["a 1.0.0", "a 2.0.0 y:=2.0.0", "y 1.0.0", "y 2.0.0", "z 1.0.0 y:=1.0.0", "z 2.0.0 y:=1.0.0"]
        heads = [f"hub{letters(start)} 1.0.0" for start in range(0, 40, 8)] + [f"{name} 2.0.0" for name in names]
        self.chosen(rows(*lines), f"a:* {wish} z:*", *heads, "a 1.0.0", "y 1.0.0", "z 2.0.0")
        self.none(rows(*lines), f"a:>2.0.0 {wish} z:*")

    def test_more_guests_than_rooms(self):
        for guests in range(2, 9):
            self.none(*places(guests, guests - 1))

    def test_as_many_rooms_as_guests(self):
        for count in range(1, 9):
            heads = [f"g{letters(i)} {count - 1 - i}.0.0" for i in range(count)]
            heads += [f"r{letters(j)} {count - 1 - j}.0.0" for j in range(count)]
            self.chosen(*places(count, count), *heads)

    def test_pairs(self):
        for count in (2, 4, 6, 8, 10):
            heads = [f"hub{letters(start)} 1.0.0" for start in range(0, count, 8)]
            self.chosen(*pairs(count), *heads, *[f"p{letters(k)} {count - 1 - k}.0.0" for k in range(count)])
        for count in (3, 5, 7, 9, 11):
            self.none(*pairs(count))

    def test_many_versions_each(self):
        for names, versions in ((2, 64), (4, 32), (8, 16), (16, 8), (32, 4)):
            lines = falling(names, versions)
            source = random.Random(names)
            source.shuffle(lines)
            register = rows(*lines)
            for top in (0, 1, versions // 2, versions - 1):
                heads = [" ".join(line.split(" ")[:2]) for line in lines if line.split(" ")[1] == f"{top}.0.0"]
                self.chosen(register, f"aa:<{top + 1}.0.0", *heads)
                wish = f"{letters(names - 1)}:>{top}.0.0 aa:<{top + 1}.0.0"
                self.chosen(register, wish, *heads)
                self.none(register, f"{letters(names - 1)}:>{top + 1}.0.0 aa:<{top + 1}.0.0")


class Calls(PkChooseCase):
    CASES = (
        ("", "", MOST), (Wishes.REGISTER, "d:* b:*", MOST), (Wishes.REGISTER, "d:* b:*", 5), ("a 1.0.0", "b:*", MOST),
        ("a", "a:*", MOST), ("a 1.0.0", "a:* ", MOST), ("a 1.0.0", "a:*", 32769), ("a 1.0.0\na 2.0.0 a:*", "a:*", MOST),
    )

    def test_what_is_handed_in_stays(self):
        for register, wish, most in self.CASES:
            b = list(register.encode())
            wishes = list(wish.encode())
            answer = pk_choose(most, b, wishes)
            self.assertEqual(b, list(register.encode()))
            self.assertEqual(wishes, list(wish.encode()))
            self.assertEqual(pk_choose(most, Untouchable(b), Untouchable(wishes)), answer)

    def test_a_second_call_answers_like_the_first(self):
        for case in self.CASES:
            for between in self.CASES:
                first = choose(*case)
                again = list(first)
                choose(*between)
                second = choose(*case)
                self.assertEqual(second, again)
                # What was given back is the caller's own: it may be changed.
                second.append(0)
                self.assertEqual(choose(*case), again)


if __name__ == "__main__":
    unittest.main()
