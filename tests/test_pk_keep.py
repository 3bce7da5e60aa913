"""Promise 3: pk_keep."""

import itertools
import random
import unittest

from fitpick.registers import pk_choose, pk_keep
from plain import (
    MOST, Untouchable, common, covering, falling, field, heads, hubs, is_choice, letters, lines_of, needs_of, rows,
    some_register, told, told_by_tops, told_by_walks, two_sides,
)


def keep(register, wish, old, most=MOST):
    return pk_keep(most, *[list(text.encode("latin-1")) for text in (register, wish, old)])


def choose(register, wish, most=MOST):
    return pk_choose(most, list(register.encode()), list(wish.encode()))


class PkKeepCase(unittest.TestCase):
    def keeps_so_many(self, register, wish, old, most):
        """Gives back the choice, by name."""
        answer = keep(register, wish, old)
        whole = {line[:2]: line for line in lines_of(register)}
        chosen = {line[0]: whole[line[:2]] for line in lines_of(bytes(answer[1:]).decode())}
        self.assertTrue(is_choice(chosen, needs_of(wish.split(" "))))
        self.assertEqual(common(chosen, old), most)
        return chosen

    def kept(self, register, wish, old, *lines):
        answer = keep(register, wish, old)
        text = rows(*lines)
        self.assertEqual(answer, [len(text)] + list(text.encode()), (register, wish, old))
        self.assertIs(type(answer), list)
        self.assertEqual({type(number) for number in answer}, {int})

    def refused(self, number, register, wish, old, most=MOST):
        answer = keep(register, wish, old, most)
        self.assertEqual(answer, [number], (register, wish, old, most))
        self.assertIs(type(answer[0]), int)


class Ordinary(PkKeepCase):
    REGISTER = rows(
        "app 1.0.0 lib:*", "app 2.0.0 lib:>2.0.0 log:*", "lib 1.0.0", "lib 2.0.0", "lib 3.0.0", "log 1.0.0", "log 2.0.0"
    )

    def test_empty_earlier_choice(self):
        for wish in ("", "app:*", "lib:* app:*", "app:<2.0.0", "log:=1.0.0", "gone:*", "app:* lib:<2.0.0"):
            self.assertEqual(keep(self.REGISTER, wish, ""), choose(self.REGISTER, wish))
        self.assertEqual(keep("", "", ""), [0])

    def test_earlier_choice_that_is_a_choice(self):
        for lines in (
            ("app 2.0.0", "lib 3.0.0", "log 2.0.0"), ("app 2.0.0", "lib 2.0.0", "log 1.0.0"),
            ("app 1.0.0", "lib 1.0.0"), ("app 1.0.0", "lib 3.0.0"),
        ):
            self.kept(self.REGISTER, "app:*", rows(*lines), *lines)
            self.kept(self.REGISTER, "app:*", rows(*reversed(lines)), *lines)

    def test_only_some_can_be_kept(self):
        self.kept(self.REGISTER, "app:>2.0.0", rows("app 1.0.0", "lib 2.0.0"), "app 2.0.0", "lib 2.0.0", "log 2.0.0")
        self.kept(self.REGISTER, "app:>2.0.0", rows("app 1.0.0", "lib 1.0.0"), "app 2.0.0", "lib 3.0.0", "log 2.0.0")
        old = rows("app 2.0.0", "lib 2.0.0", "log 1.0.0")
        self.kept(self.REGISTER, "app:* lib:=1.0.0", old, "app 1.0.0", "lib 1.0.0")
        self.kept(self.REGISTER, "log:*", old, "log 1.0.0")

    def test_one_line_of_a_name(self):
        self.kept(self.REGISTER, "lib:*", "lib 1.0.0", "lib 1.0.0")
        self.kept(self.REGISTER, "lib:>2.0.0", "lib 1.0.0", "lib 3.0.0")
        self.kept(self.REGISTER, "lib:>2.0.0", "lib 2.0.0", "lib 2.0.0")
        self.kept(self.REGISTER, "app:*", "log 1.0.0", "app 2.0.0", "lib 3.0.0", "log 1.0.0")

    def test_no_wishes(self):
        self.assertEqual(keep(self.REGISTER, "", rows("app 1.0.0", "lib 1.0.0")), [0])
        self.assertEqual(keep("", "", "a 1.0.0"), [0])


class MostInCommon(PkKeepCase):
    def test_more_lines_over_a_better_choice(self):
        # a 2 would be better, but a 1 keeps b and c.
        register = rows("a 1.0.0 b:* c:*", "a 2.0.0", "b 1.0.0", "b 2.0.0", "c 1.0.0", "c 2.0.0")
        old = rows("a 2.0.0", "b 1.0.0", "c 1.0.0")
        self.kept(register, "a:*", old, "a 1.0.0", "b 1.0.0", "c 1.0.0")
        self.kept(register, "a:*", rows("a 2.0.0", "b 1.0.0"), "a 2.0.0")
        self.kept(register, "a:*", rows("b 1.0.0"), "a 1.0.0", "b 1.0.0", "c 2.0.0")

    def test_a_name_is_let_in_to_be_kept(self):
        register = rows("m 1.0.0 x:*", "x 1.0.0 b:*", "x 2.0.0", "b 1.0.0", "b 2.0.0")
        self.kept(register, "m:*", "b 1.0.0", "m 1.0.0", "x 1.0.0", "b 1.0.0")
        self.kept(register, "m:*", "b 3.0.0", "m 1.0.0", "x 2.0.0")
        self.kept(register, "m:*", rows("b 1.0.0", "x 2.0.0"), "m 1.0.0", "x 2.0.0")

    def test_the_best_of_several(self):
        # Either a 1 or b 1 can be kept: the first name counts, and it's better greater.
        register = rows("a 1.0.0 b:=2.0.0", "a 2.0.0", "b 1.0.0", "b 2.0.0")
        old = rows("a 1.0.0", "b 1.0.0")
        self.kept(register, "a:* b:*", old, "a 2.0.0", "b 1.0.0")
        self.kept(register, "b:* a:*", old, "a 1.0.0", "b 2.0.0")
        third = rows("a 1.0.0", "a 2.0.0", "a 3.0.0", "b 1.0.0 a:<3.0.0", "b 2.0.0")
        self.kept(third, "a:* b:*", "b 1.0.0", "a 2.0.0", "b 1.0.0")
        self.kept(third, "a:* b:*", "b 2.0.0", "a 3.0.0", "b 2.0.0")

    def test_without_a_name_is_better_with_as_many_kept(self):
        register = rows("m 1.0.0 x:*", "x 1.0.0 k:=1.0.0", "x 2.0.0 k:=1.0.0 b:*", "k 1.0.0", "k 2.0.0", "b 1.0.0")
        self.kept(register, "m:*", "k 1.0.0", "m 1.0.0", "x 1.0.0", "k 1.0.0")
        self.kept(register, "m:*", rows("k 1.0.0", "b 1.0.0"), "m 1.0.0", "x 2.0.0", "k 1.0.0", "b 1.0.0")

    def test_lines_that_the_register_has_not(self):
        register = rows("a 1.0.0", "a 2.0.0", "b 1.0.0")
        self.kept(register, "a:*", "gone 1.0.0", "a 2.0.0")
        self.kept(register, "a:*", "a 3.0.0", "a 2.0.0")
        self.kept(register, "a:*", "a 1.0.1", "a 2.0.0")
        self.kept(register, "a:*", rows("a 3.0.0", "gone 1.0.0", "a 1.0.0", "aa 2.0.0"), "a 1.0.0")
        self.kept(register, "a:*", "b 2.0.0", "a 2.0.0")
        self.kept(register, "a:*", "aa 1.0.0", "a 2.0.0")

    def test_same_line_twice_counts_once(self):
        register = rows("a 1.0.0 b:=2.0.0 c:=2.0.0", "a 2.0.0", "b 1.0.0", "b 2.0.0", "c 1.0.0", "c 2.0.0")
        self.kept(register, "a:* b:* c:*", rows("a 1.0.0", "b 1.0.0", "c 1.0.0"), "a 2.0.0", "b 1.0.0", "c 1.0.0")
        old = rows(*["a 1.0.0"] * 5, "b 1.0.0", "c 1.0.0")
        self.kept(register, "a:* b:* c:*", old, "a 2.0.0", "b 1.0.0", "c 1.0.0")
        self.kept(register, "a:* b:* c:*", rows("a 1.0.0", "a 1.0.0"), "a 1.0.0", "b 2.0.0", "c 2.0.0")

    def test_same_name_in_two_versions(self):
        register = rows("a 1.0.0", "a 2.0.0", "a 3.0.0", "b 1.0.0 a:<2.0.0", "b 2.0.0")
        self.kept(register, "a:*", rows("a 1.0.0", "a 2.0.0"), "a 2.0.0")
        self.kept(register, "a:*", rows("a 2.0.0", "a 1.0.0"), "a 2.0.0")
        self.kept(register, "a:* b:*", rows("a 1.0.0", "b 1.0.0", "a 2.0.0"), "a 1.0.0", "b 1.0.0")
        self.kept(register, "a:>2.0.0", rows("a 1.0.0", "a 2.0.0"), "a 2.0.0")
        self.kept(register, "a:>3.0.0", rows("a 1.0.0", "a 2.0.0"), "a 3.0.0")
        self.kept(register, "a:* b:*", rows("a 3.0.0", "a 2.0.0", "b 1.0.0"), "a 3.0.0", "b 2.0.0")

    def test_name_and_version_must_both_be_the_same(self):
        register = rows("a 1.0.0", "a 11.0.0", "b 1.0.0", "b 2.0.0")
        self.kept(register, "a:* b:*", "b 11.0.0", "a 11.0.0", "b 2.0.0")
        self.kept(register, "a:* b:*", "a 2.0.0", "a 11.0.0", "b 2.0.0")
        self.kept(register, "a:* b:*", "a 1.0.0", "a 1.0.0", "b 2.0.0")


class NothingElse(PkKeepCase):
    """What isn't needed isn't chosen, however many lines it would keep."""

    def test_not_needed(self):
        register = rows("a 1.0.0", "b 1.0.0", "c 1.0.0 a:*")
        self.kept(register, "a:*", rows("a 1.0.0", "b 1.0.0", "c 1.0.0"), "a 1.0.0")

    def test_needs_itself(self):
        self.kept(rows("a 1.0.0", "b 1.0.0 b:*"), "a:*", "b 1.0.0", "a 1.0.0")

    def test_need_each_other(self):
        register = rows("a 1.0.0", "a 2.0.0", "b 1.0.0 c:*", "c 1.0.0 b:*", "d 1.0.0 e:*", "e 1.0.0 d:* a:*")
        old = rows("a 1.0.0", "b 1.0.0", "c 1.0.0", "d 1.0.0", "e 1.0.0")
        self.kept(register, "a:*", old, "a 1.0.0")
        self.kept(register, "a:* c:*", old, "a 1.0.0", "b 1.0.0", "c 1.0.0")

    def test_led_to_by_what_is_given_up(self):
        # b and c keep each other, but only a 1 leads to them, and d takes a 2.
        register = rows("a 1.0.0 b:*", "a 2.0.0", "b 1.0.0 c:*", "c 1.0.0 b:*", "d 1.0.0 a:=2.0.0", "d 2.0.0")
        old = rows("b 1.0.0", "c 1.0.0", "d 1.0.0")
        self.kept(register, "a:* d:*", old, "a 1.0.0", "b 1.0.0", "c 1.0.0", "d 2.0.0")
        self.kept(register, "a:* d:=1.0.0", old, "a 2.0.0", "d 1.0.0")
        self.kept(register, "a:=2.0.0", old, "a 2.0.0")

    def test_circles_that_hang_together(self):
        register = rows(
            "a 1.0.0", "a 2.0.0 e:*", "b 1.0.0 c:*", "c 1.0.0 b:* d:*", "d 1.0.0 e:*", "e 1.0.0 d:* f:*", "f 1.0.0"
        )
        old = rows("a 1.0.0", "b 1.0.0", "c 1.0.0", "d 1.0.0", "e 1.0.0", "f 1.0.0")
        self.kept(register, "a:*", old, "a 2.0.0", "d 1.0.0", "e 1.0.0", "f 1.0.0")
        self.kept(register, "a:=1.0.0", old, "a 1.0.0")


class Form(PkKeepCase):
    REGISTER = rows("a 1.0.0", "a 2.0.0", "b 1.0.0", "b 2.0.0")

    def test_last_line_ended_or_not(self):
        for old in ("a 1.0.0\nb 1.0.0", "a 1.0.0\nb 1.0.0\n"):
            self.kept(self.REGISTER, "a:* b:*", old, "a 1.0.0", "b 1.0.0")
        for old in ("a 1.0.0", "a 1.0.0\n"):
            self.kept(self.REGISTER, "a:*", old, "a 1.0.0")

    def test_empty_line(self):
        for old in ("\n", "\n\n", "\na 1.0.0", "a 1.0.0\n\n", "a 1.0.0\n\nb 1.0.0"):
            self.refused(-1, self.REGISTER, "a:*", old)

    def test_wrong_lines(self):
        wrong = (
            "a", "a ", "1.0.0", " 1.0.0", "a 1.0.0 b:*", "a 1.0.0 ", " a 1.0.0", "a  1.0.0", "a\t1.0.0", "a1.0.0",
            "A 1.0.0", "a1 1.0.0", "a" * 17 + " 1.0.0", "a 1.0", "a 1.0.0.0", "a 01.0.0", "a 1.00.0", "a 1000.0.0",
            "a 1..0", "a =1.0.0", "a:*", "a:=1.0.0", "a *", "a 1.0.0\r", "a 1.0.x", "a 1.0.0 1.0.0", "a b 1.0.0", " ",
            "a -1.0.0", "\x00", "\xff", "a 1.0.0\x00",
        )
        for line in wrong:
            for old in (line, f"{line}\n", f"b 1.0.0\n{line}", f"{line}\nb 1.0.0\n", f"gone 1.0.0\n{line}\nb 1.0.0"):
                self.refused(-1, self.REGISTER, "a:*", old)
                self.refused(-1, self.REGISTER, "", old)
            self.refused(-1, "", "", line)

    def test_every_byte(self):
        for byte in range(256):
            sign = bytes([byte]).decode("latin-1")
            if sign not in "abcdefghijklmnopqrstuvwxyz":
                self.refused(-1, self.REGISTER, "a:*", f"a{sign}b 1.0.0")
            if sign not in "0123456789\n":
                self.refused(-1, self.REGISTER, "a:*", f"a 1.0.0{sign}")
            if sign not in "0123456789":
                self.refused(-1, self.REGISTER, "a:*", f"a 1.{sign}.0")

    def test_longest_name_and_version(self):
        name = "abcdefghijklmnop"
        register = rows(f"{name} 100.200.300", f"{name} 999.999.999")
        self.kept(register, f"{name}:*", f"{name} 100.200.300", f"{name} 100.200.300")

    def test_more_than_128_lines(self):
        other = [f"x 1.{k // 100}.{k % 100}" for k in range(300)]
        self.kept(self.REGISTER, "a:*", rows(*other, "a 1.0.0"), "a 1.0.0")
        self.kept(self.REGISTER, "a:*", rows(*["a 1.0.0"] * 129), "a 1.0.0")
        self.kept(self.REGISTER, "a:* b:*", rows(*["a 1.0.0"] * 4096), "a 1.0.0", "b 2.0.0")
        self.refused(-1, self.REGISTER, "a:*", rows(*other, "a 1.0"))

    def test_wrong_registers_and_wishes(self):
        many = rows(*[f"a 1.0.{k}" for k in range(129)])
        for register in ("\n", "a", "a 1.0", "a 1.0.0\na 1.0.0", "a 1.0.0 b", many):
            self.refused(-1, register, "a:*", "a 1.0.0")
        for wish in ("a", "a:", " a:*", "a:* ", "a:*  b:*", "a:1.0.0", " ".join(["a:*"] * 9), "\n"):
            self.refused(-1, self.REGISTER, wish, "a 1.0.0")


class Edges(PkKeepCase):
    REGISTER = rows("app 1.0.0 lib:*", "lib 10.2.33", "lib 9.0.0")
    OLD = "lib 9.0.0"
    LENGTH = len("app 1.0.0\nlib 9.0.0\n")

    def test_most(self):
        whole = keep(self.REGISTER, "app:*", self.OLD)
        self.assertEqual(whole[0], self.LENGTH)
        for most in (self.LENGTH, self.LENGTH + 1, 32767, 32768):
            self.assertEqual(keep(self.REGISTER, "app:*", self.OLD, most), whole)
        for most in (0, 1, self.LENGTH - 1):
            self.refused(-5, self.REGISTER, "app:*", self.OLD, most)
        # Without the earlier choice the text is longer.
        self.refused(-5, self.REGISTER, "app:*", "", self.LENGTH)

    def test_most_with_an_empty_answer(self):
        for most in (0, 1, 32768):
            self.assertEqual(keep(self.REGISTER, "", self.OLD, most), [0])
            self.assertEqual(keep("", "", "", most), [0])

    def test_most_above(self):
        for most in (32769, 65536, 4294967295):
            self.refused(-2, self.REGISTER, "app:*", self.OLD, most)
            self.refused(-2, "", "", "", most)

    def test_8_and_9_wishes(self):
        self.kept("a 1.0.0\na 2.0.0", " ".join(["a:*"] * 8), "a 1.0.0", "a 1.0.0")
        self.refused(-1, "a 1.0.0\na 2.0.0", " ".join(["a:*"] * 9), "a 1.0.0")


class Refusals(PkKeepCase):
    def test_2_over_all(self):
        for most in (32769, 4294967295):
            self.refused(-2, "a", "a:*", "", most)
            self.refused(-2, "a 1.0.0", "a", "", most)
            self.refused(-2, "a 1.0.0", "a:*", "a", most)
            self.refused(-2, "a 1.0.0", "gone:*", "", most)

    def test_1_over_6(self):
        self.refused(-1, "a 1.0.0", "gone:*", "a")
        self.refused(-1, "a 1.0.0", "gone:* a", "")
        self.refused(-1, "a 1.0.0\nb", "gone:*", "")
        self.refused(-1, "a 1.0.0 gone:*", "a:*", "a 1.0.0\n\n")

    def test_1_over_5(self):
        self.refused(-1, "a 1.0.0", "a:*", "a", 0)
        self.refused(-1, "a 1.0.0", "a:* a", "", 0)
        self.refused(-1, "a 1.0.0\nb", "a:*", "", 0)

    def test_6_alone_and_over_5(self):
        for most in (0, 1, 32768):
            for old in ("", "a 1.0.0", "gone 1.0.0"):
                self.refused(-6, "a 1.0.0", "gone:*", old, most)
                self.refused(-6, "a 1.0.0 gone:*", "a:*", old, most)
                self.refused(-6, "a 1.0.0", "a:=2.0.0", old, most)


class AllThrough(PkKeepCase):
    def test_small_registers_against_going_through_all(self):
        source = random.Random(5)
        for _ in range(1500):
            register, wish, old = some_register(source)
            text = told(register, wish, old)
            if text is None:
                self.refused(-6, register, wish, old)
            else:
                self.kept(register, wish, old, *text.splitlines())


class Many(PkKeepCase):
    """Registers where trying one choice after the other would never end."""

    def apart(self, count, against):
        """Names in two versions, where 1.0.0 needs 2.0.0 of those that it's against; earlier it was 1.0.0 of each."""
        names = [f"n{letters(k)}" for k in range(count)]
        lines, wish = hubs(names)
        for k, name in enumerate(names):
            needs = "".join(f" {names[other]}:=2.0.0" for other in against(k))
            lines += [f"{name} 1.0.0{needs}", f"{name} 2.0.0"]
        return rows(*lines), wish, rows(*[f"{name} 1.0.0" for name in names])

    def keeps(self, register, wish, old, most, kept):
        """kept: for each name whether 1.0.0 is to be kept."""
        chosen = self.keeps_so_many(register, wish, old, most)
        self.assertEqual([chosen[f"n{letters(k)}"][1] == (1, 0, 0) for k in range(len(kept))], kept)

    def test_nothing_in_the_way(self):
        self.keeps(*self.apart(56, lambda k: []), 56, [True] * 56)

    def test_two_by_two(self):
        # Of each pair one is kept; the first of them is better greater, so it's the second.
        case = self.apart(56, lambda k: [k + 1] if k % 2 == 0 else [])
        self.keeps(*case, 28, [k % 2 == 1 for k in range(56)])

    def test_three_by_three(self):
        case = self.apart(54, lambda k: [[k + 1, k + 2], [k + 1], []][k % 3])
        self.keeps(*case, 18, [k % 3 == 2 for k in range(54)])

    def test_eight_by_eight(self):
        case = self.apart(56, lambda k: range(k + 1, k - k % 8 + 8))
        self.keeps(*case, 7, [k % 8 == 7 for k in range(56)])

    def test_one_ring(self):
        # 27 of 55 in a ring: the first two are given up, of the others every second one.
        case = self.apart(55, lambda k: [(k + 1) % 55])
        self.keeps(*case, 27, [k >= 2 and k % 2 == 0 for k in range(55)])

    def test_rings_of_seven(self):
        case = self.apart(49, lambda k: [k - k % 7 + (k + 1) % 7])
        self.keeps(*case, 21, [k % 7 in (2, 4, 6) for k in range(49)])

    def test_a_field(self):
        # Seven by eight places, none beside another: one half as on a chessboard, the first place given up.
        def beside(k):
            return [other for other in (k + 1 if k % 8 < 7 else 56, k + 8) if other < 56]

        case = self.apart(56, beside)
        self.keeps(*case, 28, [(k // 8 + k % 8) % 2 == 1 for k in range(56)])

    def test_whichever_are_against_each_other(self):
        source = random.Random(6)
        for count in (5, 8, 11) * 8:
            pairs = [pair for pair in itertools.combinations(range(count), 2) if source.random() < source.choice((0.3, 0.6))]
            pairs = [pair if source.random() < 0.5 else pair[::-1] for pair in pairs]
            against = {k: [other for one, other in pairs if one == k][:8] for k in range(count)}
            ways = []
            for kept in itertools.product((False, True), repeat=count):
                if not any(kept[k] and kept[other] for k in against for other in against[k]):
                    ways.append((sum(kept), [not one for one in kept]))
            most, given_up = max(ways)
            self.keeps(*self.apart(count, against.get), most, [not one for one in given_up])

    def test_all_or_nothing(self):
        # Each of fourteen tops brings six lines of the earlier choice with it, and no two that follow fit together.
        tops = [f"t{letters(k)}" for k in range(14)]
        lines, wish = hubs(tops)
        old = []
        for k, top in enumerate(tops):
            leaves = [f"l{letters(k)}{letter}" for letter in "abcdef"]
            against = f" {tops[k + 1]}:=2.0.0" if k + 1 < len(tops) else ""
            lines += [f"{top} 1.0.0 " + " ".join(f"{leaf}:*" for leaf in leaves) + against, f"{top} 2.0.0"]
            lines += [f"{leaf} 1.0.0" for leaf in leaves]
            old += [f"{leaf} 1.0.0" for leaf in leaves]
        heads = []
        for line in lines:
            head = " ".join(line.split(" ")[:2])
            number = [k for k, top in enumerate(tops) if letters(k) == line[1:3]]
            if line[0] == "h" or line[0] == "l" and number[0] % 2 == 1:
                heads.append(head)
            elif line[0] == "t" and head.endswith(" 1.0.0" if number[0] % 2 == 1 else " 2.0.0"):
                heads.append(head)
        self.kept(rows(*lines), wish, rows(*old), *heads)

    def test_many_versions_each(self):
        # Each name's version is at most as great as that of the name before, which half of the earlier ones are not.
        for names, versions in ((2, 64), (4, 32), (8, 16), (16, 8), (32, 4)):
            lines = falling(names, versions)
            old = [f"{letters(k)} {versions - 1 - k % 2}.0.0" for k in range(names)]
            self.kept(rows(*lines), "aa:*", rows(*old), *self.best_falling(names, versions))

    def best_falling(self, names, versions):
        """The best of those with the greatest version up to some name and one less from there on."""
        ways = []
        for turn in range(names + 1):
            steps = [versions - 1 if k < turn else versions - 2 for k in range(names)]
            ways.append((len([k for k in range(names) if steps[k] == versions - 1 - k % 2]), steps))
        return [f"{letters(k)} {v}.0.0" for k, v in enumerate(max(ways)[1])]

    def test_long_way_through_all(self):
        # Every place leads to a neighbour; all 35 are kept only if the way goes through all of them.
        lines = field(5, 7)
        self.keeps_so_many(rows(*lines), "naa:*", heads(lines), 35)


class GivenUp(PkKeepCase):
    """Registers where much of the earlier choice must be given up, and it takes a count to see it."""

    NEEDS = """
        aa: bab bap bao baf bac bak bae baj
        ab: bag baj baa bao bak bac bap bam
        ac: bal bai bah bao bae baa bak baf
        ad: bao bap baf bag bam bai bac bak
        ae: baf bad bao baa bac bap bal baj
        af: bal bai bak bao bac bah bag bam
        ag: bal bam baj baf bao bah bac bag
        ah: bao bak bai bad bah bae bal ban
        baa: af ah ad ag
        bab: af ae ah ag
        bac: ah ad af ab
        bad: af ag ah ab
        bae: ae ag ad ac
        baf: ae ag af ah
        bag: ag ac af ab
        bah: ah ae ac ag
        bai: ab ag ac aa
        baj: ad af aa ag
        bak: aa ac ae ab
        bal: ab ag ae ah
        bam: ae ab ag aa
        ban: ag af aa ah
        bao: af ac ab ah
        bap: aa ah ag af
    """

    def test_8_names_of_8_versions_and_16_of_4(self):
        lines = []
        for row in self.NEEDS.split("\n")[1:-1]:
            name, others = row.strip().split(": ")
            lines += [f"{name} {v}.0.0 {other}:*" for v, other in enumerate(others.split(" "), start=1)]
        self.assertEqual(len(lines), 128)
        self.kept(
            rows(*lines), "baa:*", heads(lines), "aa 8.0.0", "ab 8.0.0", "ac 8.0.0", "ad 8.0.0", "ae 7.0.0", "af 7.0.0",
            "ag 7.0.0", "ah 8.0.0", "baa 4.0.0", "bac 4.0.0", "baf 4.0.0", "bag 2.0.0", "baj 1.0.0", "bak 3.0.0",
            "bal 4.0.0", "bam 4.0.0", "ban 2.0.0",
        )

    def test_others_of_its_make(self):
        source = random.Random(18)
        for few, versions, many, others in ((7, 9, 14, 4), (6, 8, 12, 5), (10, 6, 17, 4)):
            self.keeps_so_many(*two_sides(source, few, versions, many, others), 2 * few + 1)

    def test_smaller_ones_against_all_walks(self):
        source = random.Random(19)
        for few, versions, many, others in ((2, 3, 5, 2), (3, 4, 6, 3), (4, 3, 7, 2), (4, 4, 9, 3), (3, 6, 8, 3)) * 3:
            register, wish, old = two_sides(source, few, versions, many, others)
            self.kept(register, wish, old, *told_by_walks(register, wish, old).splitlines())
            some = rows(*[line for line in old.splitlines() if source.random() < 0.5])
            self.kept(register, wish, some, *told_by_walks(register, wish, some).splitlines())

    def test_two_parts_with_one_way_between(self):
        # Who goes over to the other part doesn't come back.
        source = random.Random(20)
        for _ in range(6):
            register, wish, _ = two_sides(source, 3, 3, 6, 2)
            lines = register.splitlines() + ["aaa 99.0.0 daa:*", "bab 99.0.0 cab:*"]
            lines += two_sides(source, 3, 3, 6, 2, "cd")[0].splitlines()
            self.kept(rows(*lines), wish, heads(lines), *told_by_walks(rows(*lines), wish, heads(lines)).splitlines())

    def test_leaves_brought_in_by_few_tops(self):
        source = random.Random(21)
        for tops, versions, leaves, each in ((3, 12, 30, 8), (2, 20, 40, 8), (4, 6, 24, 5), (4, 8, 40, 8), (5, 4, 30, 6)):
            register, wish, old = covering(source, tops, versions, leaves, each)
            self.kept(register, wish, old, *told_by_tops(register, wish, old).splitlines())

    def test_a_field_from_the_wrong_place(self):
        # Five by seven places as on a chessboard: who begins on one of the 17 has to leave out one of the 18.
        lines = field(5, 7)
        self.keeps_so_many(rows(*lines), "nab:*", heads(lines), 34)


class Calls(PkKeepCase):
    CASES = (
        ("", "", "", MOST), (Ordinary.REGISTER, "app:*", "lib 1.0.0\napp 2.0.0\n", MOST), ("a 1.0.0", "b:*", "", MOST),
        (Ordinary.REGISTER, "app:*", "lib 1.0.0\napp 2.0.0\n", 3), ("a 1.0.0\na 2.0.0", "a:*", "a 1.0.0", MOST),
        ("a 1.0.0\na 2.0.0", "a:*", "", MOST), ("a", "a:*", "", MOST), ("a 1.0.0", "a:*", "a", MOST),
        ("a 1.0.0", "a:*", "a 1.0.0", 32769),
    )

    def test_what_is_handed_in_stays(self):
        for case in self.CASES:
            lists = [list(text.encode()) for text in case[:3]]
            answer = pk_keep(case[3], *lists)
            self.assertEqual(lists, [list(text.encode()) for text in case[:3]])
            self.assertEqual(pk_keep(case[3], *[Untouchable(one) for one in lists]), answer)

    def test_a_second_call_answers_like_the_first(self):
        for case in self.CASES:
            for between in self.CASES:
                first = keep(*case)
                again = list(first)
                keep(*between)
                second = keep(*case)
                self.assertEqual(second, again)
                # What was given back is the caller's own: it may be changed.
                second.append(0)
                self.assertEqual(keep(*case), again)


if __name__ == "__main__":
    unittest.main()
