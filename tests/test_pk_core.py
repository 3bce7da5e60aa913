"""Promise 4: pk_core."""

import itertools
import random
import unittest

from fitpick.registers import pk_choose, pk_core
from plain import MOST, Untouchable, falling, hubs, letters, pairs, places, rows, some_register, told_core


def core(register, wish):
    return pk_core(list(register.encode("latin-1")), list(wish.encode("latin-1")))


class PkCoreCase(unittest.TestCase):
    def blamed(self, register, wish, *numbers):
        answer = core(register, wish)
        self.assertEqual(answer, [len(numbers)] + list(numbers), (register, wish))
        self.assertIs(type(answer), list)
        self.assertEqual({type(number) for number in answer}, {int})

    def refused(self, register, wish):
        answer = core(register, wish)
        self.assertEqual(answer, [-1], (register, wish))
        self.assertIs(type(answer[0]), int)


class NoneToBlame(PkCoreCase):
    REGISTER = rows("a 1.0.0", "a 2.0.0 b:*", "b 1.0.0 c:>2.0.0", "c 1.0.0", "c 2.0.0", "d 1.0.0 gone:*", "e 1.0.0 a:*")

    def test_no_wishes(self):
        self.blamed("", "")
        self.blamed(self.REGISTER, "")
        self.blamed("a 1.0.0 gone:*", "")

    def test_one_wish(self):
        for wish in ("a:*", "a:=1.0.0", "b:*", "c:<2.0.0", "e:^1.0.0"):
            self.blamed(self.REGISTER, wish)
        self.blamed("a 1.0.0", "a:*")

    def test_several_wishes(self):
        for wish in ("a:* b:*", "e:* a:=1.0.0", "c:* b:* a:* e:*", "a:* a:<2.0.0 a:>1.0.0", " ".join(["a:*"] * 8)):
            self.blamed(self.REGISTER, wish)

    def test_a_lower_version_will_do(self):
        self.blamed(rows("a 1.0.0", "a 2.0.0 gone:*", "b 1.0.0 a:*"), "b:* a:*")
        self.blamed(rows("a 1.0.0 b:*", "b 1.0.0 a:*"), "b:* a:*")


class OneToBlame(PkCoreCase):
    REGISTER = rows(
        "a 1.0.0", "a 2.0.0", "b 1.0.0", "c 1.0.0 gone:*", "c 2.0.0 a:=3.0.0", "d 1.0.0 c:*", "e 1.0.0 a:=1.0.0 a:=2.0.0",
        "f 1.0.0 f:=2.0.0", "g 1.0.0 h:*", "h 1.0.0 g:=2.0.0",
    )
    # Names that aren't there, versions that don't fit, needs that can't be met.
    ALONE = (
        "gone:*", "aa:*", "a:=3.0.0", "a:>2.0.1", "a:<1.0.0", "a:>2.0.0&<2.0.0", "c:*", "c:=1.0.0", "d:*", "e:*", "f:*",
        "g:*", "h:*",
    )

    def test_alone(self):
        self.blamed("", "a:*", 0)
        for wish in self.ALONE:
            self.blamed(self.REGISTER, wish, 0)

    def test_at_each_place(self):
        for wish in self.ALONE:
            for place in range(8):
                wishes = ["a:*", "b:*", "a:=1.0.0", "b:=1.0.0", "a:*", "b:*", "a:<2.0.0"]
                wishes.insert(place, wish)
                self.blamed(self.REGISTER, " ".join(wishes), place)

    def test_the_first_of_several(self):
        for one, other in itertools.product(self.ALONE, repeat=2):
            self.blamed(self.REGISTER, f"a:* {one} b:* {other}", 1)


class SomeToBlame(PkCoreCase):
    def test_two(self):
        register = rows("a 1.0.0 x:=1.0.0", "b 1.0.0 x:=2.0.0", "c 1.0.0", "x 1.0.0", "x 2.0.0")
        self.blamed(register, "a:* b:*", 0, 1)
        self.blamed(register, "b:* a:*", 0, 1)
        self.blamed(register, "c:* a:* b:*", 1, 2)
        self.blamed(register, "a:* c:* b:*", 0, 2)
        self.blamed(register, "b:* x:* c:* c:* c:* c:* c:* a:*", 0, 7)
        self.blamed(register, "c:* x:=1.0.0 a:* b:*", 1, 3)

    def test_same_name_twice(self):
        register = rows("a 1.0.0", "a 2.0.0", "a 3.0.0", "b 1.0.0")
        self.blamed(register, "a:=1.0.0 a:=2.0.0", 0, 1)
        self.blamed(register, "a:<3.0.0 b:* a:>3.0.0", 0, 2)
        self.blamed(register, "a:* a:<2.0.0 a:* b:* a:>2.0.0 a:=1.0.0", 1, 4)
        self.blamed(register, "a:>2.0.0 a:<3.0.0 b:*")

    def test_three(self):
        # Any two of them leave one version of x.
        register = rows(
            "a 1.0.0 x:<3.0.0", "b 1.0.0 x:>2.0.0", "c 1.0.0 y:=1.0.0", "x 1.0.0", "x 2.0.0 y:=2.0.0", "x 3.0.0", "y 1.0.0",
            "y 2.0.0",
        )
        self.blamed(register, "a:* b:* c:*", 0, 1, 2)
        self.blamed(register, "y:* c:* x:* a:* b:*", 1, 3, 4)
        for wish in ("a:* b:*", "b:* c:*", "a:* c:*"):
            self.blamed(register, wish)

    def test_as_many_as_there_are(self):
        # Each wish takes one version of x away: with fewer wishes one is left.
        for count in range(1, 9):
            register = rows(*[f"x {v}.0.0 " + f"t{letters(v)}:=1.0.0" for v in range(count)], *[
                f"t{letters(v)} {k}.0.0" for v in range(count) for k in (1, 2)
            ])
            # Where x itself is wished for as well, it's one of the blamed.
            wishes = [f"t{letters(v)}:=2.0.0" for v in range(count)]
            if count < 8:
                self.blamed(register, " ".join(wishes + ["x:*"]), *range(count + 1))
                self.blamed(register, " ".join(["x:*"] + wishes), *range(count + 1))
            self.blamed(register, " ".join(wishes))

    def test_all_eight(self):
        lines = [f"x {v}.0.0 t{letters(v)}:=1.0.0" for v in range(8)]
        lines += [f"t{letters(v)} {k}.0.0" for v in range(8) for k in (1, 2)]
        lines += [f"w{letters(v)} 1.0.0 x:* t{letters(v)}:=2.0.0" for v in range(8)]
        wishes = [f"w{letters(v)}:*" for v in range(8)]
        self.blamed(rows(*lines), " ".join(wishes), *range(8))
        self.blamed(rows(*lines), " ".join(reversed(wishes)), *range(8))
        for place in range(8):
            self.blamed(rows(*lines), " ".join(wishes[:place] + wishes[place + 1:]))
            self.blamed(rows(*lines), " ".join(wishes[:place] + [f"w{letters(place)}:<1.0.0"] + wishes[place + 1:]), place)


class SeveralSets(PkCoreCase):
    # Wishes for a, b, c can't be met together; nor can those for d and e; f can't be met at all.
    REGISTER = rows(
        "a 1.0.0 x:<3.0.0", "b 1.0.0 x:>2.0.0", "c 1.0.0 x:<2.0.0&>1.0.0", "x 1.0.0", "x 2.0.0", "x 3.0.0",
        "k 1.0.0 y:<3.0.0", "l 1.0.0 y:>2.0.0", "m 1.0.0 z:=1.0.0", "y 1.0.0", "y 2.0.0 z:=2.0.0", "y 3.0.0", "z 1.0.0",
        "z 2.0.0", "f 1.0.0 f:>2.0.0", "o 1.0.0",
    )

    def test_fewest_though_others_come_first(self):
        self.blamed(self.REGISTER, "k:* l:* m:*", 0, 1, 2)
        self.blamed(self.REGISTER, "k:* l:* m:* b:* c:*", 3, 4)
        self.blamed(self.REGISTER, "k:* b:* l:* m:* c:*", 1, 4)
        self.blamed(self.REGISTER, "k:* l:* m:* b:* c:* f:*", 5)
        self.blamed(self.REGISTER, "b:* c:* k:* l:* m:* o:* gone:*", 6)

    def test_first_of_equally_many(self):
        pair = "x:=1.0.0 x:=2.0.0"
        self.blamed(self.REGISTER, f"y:=1.0.0 {pair} y:=3.0.0", 0, 3)
        self.blamed(self.REGISTER, f"{pair} y:=1.0.0 y:=3.0.0", 0, 1)
        self.blamed(self.REGISTER, f"o:* {pair} y:=1.0.0 y:=3.0.0", 1, 2)
        self.blamed(self.REGISTER, "x:=1.0.0 y:=1.0.0 y:=3.0.0 x:=2.0.0", 0, 3)
        self.blamed(self.REGISTER, "x:=1.0.0 x:=2.0.0 x:=3.0.0", 0, 1)
        self.blamed(self.REGISTER, "x:<3.0.0 x:=2.0.0 x:=3.0.0", 0, 2)
        self.blamed(self.REGISTER, "x:* x:>2.0.0 x:>3.0.0 x:<2.0.0", 1, 3)
        self.blamed(self.REGISTER, "x:* x:>1.0.0 x:>3.0.0 x:<2.0.0", 2, 3)

    def test_first_of_equally_many_by_a_later_number(self):
        # 0 is in both, and the second number tells.
        self.blamed(self.REGISTER, "x:=1.0.0 o:* x:=3.0.0 x:>2.0.0", 0, 2)
        three = rows(
            "p 1.0.0 q:*", "q 1.0.0 r:=2.0.0", "q 2.0.0 s:=2.0.0", "r 1.0.0", "r 2.0.0", "s 1.0.0", "s 2.0.0", "o 1.0.0",
        )
        self.blamed(three, "p:* r:=1.0.0 o:* s:=1.0.0 s:<2.0.0", 0, 1, 3)
        self.blamed(three, "p:* o:* r:<2.0.0 r:=1.0.0 s:<2.0.0 s:=1.0.0", 0, 2, 4)
        self.blamed(three, "o:* s:=1.0.0 s:* r:* r:=1.0.0 q:* p:*", 1, 4, 5)

    def test_smaller_number_later_over_greater_first(self):
        # {0, 7} comes ahead of {1, 2}: the first number that differs tells, not the sum or the last one.
        self.blamed(self.REGISTER, "x:=1.0.0 y:=1.0.0 y:=3.0.0 o:* o:* o:* o:* x:=3.0.0", 0, 7)
        self.blamed(self.REGISTER, "y:=1.0.0 x:=1.0.0 x:=3.0.0 o:* o:* o:* o:* y:=3.0.0", 0, 7)


class OnlyForThatPart(PkCoreCase):
    """A line is chosen only for what is wished for in the part that is looked at."""

    def test_met_for_another_wish(self):
        # h is there for a, but what b needs besides is not.
        self.blamed(rows("a 1.0.0 h:*", "b 1.0.0 h:* gone:*", "h 1.0.0"), "a:* b:*", 1)
        self.blamed(rows("a 1.0.0 h:*", "b 1.0.0 h:=2.0.0", "h 1.0.0", "h 2.0.0 gone:*"), "a:* h:* b:*", 2)
        # b needs the version of h that doesn't fit a: b alone is fine.
        self.blamed(rows("a 1.0.0 h:=1.0.0", "b 1.0.0 h:=2.0.0", "h 1.0.0", "h 2.0.0"), "h:* a:* b:*", 1, 2)

    def test_what_nobody_wishes_is_not_in_the_way(self):
        register = rows("a 1.0.0 x:=1.0.0", "b 1.0.0 x:=2.0.0", "c 1.0.0 b:*", "d 1.0.0 gone:*", "x 1.0.0", "x 2.0.0")
        self.blamed(register, "a:*")
        self.blamed(register, "c:*")
        self.blamed(register, "c:* b:*")
        self.blamed(register, "x:* a:* c:*", 1, 2)
        self.blamed(register, "x:=2.0.0 c:* b:*")

    def test_rings(self):
        register = rows("a 1.0.0 b:*", "b 1.0.0 a:* x:=1.0.0", "c 1.0.0 d:*", "d 1.0.0 c:* x:=2.0.0", "x 1.0.0", "x 2.0.0")
        self.blamed(register, "a:* b:*")
        self.blamed(register, "c:* d:*")
        self.blamed(register, "a:* b:* c:* d:*", 0, 2)
        self.blamed(register, "x:* b:* x:=1.0.0 d:*", 1, 3)


class Edges(PkCoreCase):
    def test_eight_wishes_and_nine(self):
        register = rows(*[f"{letter} 1.0.0" for letter in "abcdefghi"])
        self.blamed(register, " ".join(f"{letter}:*" for letter in "abcdefgh"))
        self.blamed(register, "a:* " * 7 + "a:>2.0.0", 7)
        self.refused(register, " ".join(f"{letter}:*" for letter in "abcdefghi"))
        self.refused(register, " ".join(["gone:*"] * 9))

    def test_spaces(self):
        register = rows("a 1.0.0", "b 1.0.0")
        self.blamed(register, "a:* b:*")
        self.blamed(register, "a:* gone:*", 1)
        for wish in ("a:*  b:*", " a:*", "a:* ", " a:* b:*", "a:* b:* ", " ", "  ", "gone:*  a:*", " gone:*", "gone:* "):
            self.refused(register, wish)
        for wish in ("a:*\tb:*", "a:*\nb:*", "a:*\n", "\n", "a:* " * 8):
            self.refused(register, wish)

    def test_long_wishes(self):
        need = "a" * 16 + ":" + "&".join([">999.999.998"] * 4)
        self.blamed(f"{'a' * 16} 999.999.999", " ".join([need] * 8))
        self.blamed(f"{'a' * 16} 999.999.997", " ".join([need] * 8), 0)
        self.refused("a 1.0.0", "a" * 1024)

    def test_128_lines_and_129(self):
        register = rows(*[f"a 1.{k // 100}.{k % 100}" for k in range(128)])
        self.blamed(register, "a:=1.1.27")
        self.blamed(register[:-1], "a:* a:=1.1.28", 1)
        self.blamed(register, "a:<1.0.50 a:* a:>1.0.50 a:=1.0.50", 0, 2)
        for wish in ("a:*", "", "gone:*"):
            self.refused(register + "b 1.0.0", wish)
            self.refused(register + "b 1.0.0\n", wish)


class Refusals(PkCoreCase):
    def test_wrong_registers(self):
        for register in (
            "\n", "a", "a 1.0", "a 1.0.0\na 1.0.0", "A 1.0.0", "a 1.0.0 b", "a 1.0.0 b:1.0.0", "a 1.0.0 ", " a 1.0.0",
            "a  1.0.0", "a 01.0.0", "a 1.0.0\n\nb 1.0.0", "a 1.0.0" + " b:*" * 9, "a 1.0.0\r\n", "a" * 17 + " 1.0.0",
            "a 1.0.0\nb 1.0.0\nc 1.0.0\nd",
        ):
            for wish in ("", "a:*", "gone:*", "a"):
                self.refused(register, wish)

    def test_wrong_wishes(self):
        for wish in (
            "a", "a:", ":*", "a:1.0.0", "a:=1.0", "a:=01.0.0", "A:*", "a:**", "a:*&", "a:&*", "a:*&*&*&*&*", "a:*:*",
            "a::*", "a:=1.0.0.0", "a:=1000.0.0", "a" * 17 + ":*", "a 1.0.0", "a:*,b:*", "a:>=1.0.0", "\x00", "\xff",
        ):
            for register in ("", "a 1.0.0"):
                self.refused(register, wish)
                self.refused(register, f"gone:* {wish}")
                self.refused(register, f"{wish} gone:*")


class AllThrough(PkCoreCase):
    def test_small_registers_against_going_through_all(self):
        source = random.Random(7)
        for _ in range(600):
            register, wish, _ = some_register(source)
            self.blamed(register, wish, *told_core(register, wish))

    def test_more_wishes(self):
        source = random.Random(8)

        def some_need(name):
            return f"{name}:{source.choice('><')}{source.randint(1, 3)}.0.0"

        sizes = []
        for _ in range(800):
            lines = []
            for name, v in itertools.product("abc", range(4)):
                needs = [some_need(other) for other in "abc" if other != name and source.random() < 0.3]
                lines.append(" ".join([f"{name} {v}.0.0"] + needs))
            wish = " ".join(some_need(source.choice("abc")) for _ in range(source.randint(3, 8)))
            numbers = told_core(rows(*lines), wish)
            sizes.append(len(numbers))
            self.blamed(rows(*lines), wish, *numbers)
        # That there were some of each.
        for size in range(4):
            self.assertGreater(sizes.count(size), 5)


class Many(PkCoreCase):
    """Registers where trying one choice after the other would never end."""

    def test_long_chain(self):
        lines = [f"{letters(k)} 1.0.0 {letters(k + 1)}:*" for k in range(127)]
        self.blamed(rows(*lines, f"{letters(127)} 1.0.0"), "aa:* bb:*")
        self.blamed(rows(*lines, f"{letters(127)} 1.0.0 gone:*"), "aa:*", 0)
        both = rows(*lines[:126], f"{letters(126)} 1.0.0", f"{letters(126)} 2.0.0")
        self.blamed(both, f"zz:* {letters(126)}:<2.0.0 aa:*", 0)
        ring = rows(*lines, f"{letters(127)} 1.0.0 aa:*")
        self.blamed(ring, f"{letters(77)}:* aa:* zz:*", 2)

    def test_two_versions_each_and_the_last_decides(self):
        lines = []
        for k in range(63):
            lines += [f"{letters(k)} {v}.0.0 {letters(k + 1)}:={v}.0.0" for v in (1, 2)]
        last = letters(63)
        register = rows(*lines, f"{last} 1.0.0", f"{last} 2.0.0")
        self.blamed(register, f"aa:=2.0.0 bb:* {last}:=2.0.0")
        self.blamed(register, f"aa:=2.0.0 bb:* {last}:=1.0.0", 0, 2)
        self.blamed(register, f"bb:=1.0.0 aa:* ac:=2.0.0 {last}:* ab:<2.0.0", 0, 2)

    def test_more_guests_than_rooms(self):
        for guests in range(2, 9):
            self.blamed(*places(guests, guests - 1), *range(guests))
            self.blamed(*places(guests, guests))
        register, wish = places(8, 5)
        self.blamed(register, wish, *range(6))

    def test_pairs(self):
        for count in (2, 4, 6, 8, 10):
            self.blamed(*pairs(count))
        for count in (3, 5, 7):
            self.blamed(*pairs(count), 0)
        # The first eight have one wish and the others have another: by itself each can be met.
        for count in (9, 11):
            self.blamed(*pairs(count), 0, 1)

    def test_what_lies_between_has_no_part_in_it(self):
        names = [letters(k) + "x" for k in range(40)]
        lines, wish = hubs(names)
        lines += [f"{name} {v}.0.0" for name in names for v in (1, 2)]
        lines += ["a 1.0.0 y:=2.0.0", "y 1.0.0", "y 2.0.0", "z 1.0.0 y:=1.0.0", "z 2.0.0 y:=1.0.0"]
        self.blamed(rows(*lines), f"a:* {wish} y:* z:*", 0, 7)
        self.blamed(rows(*lines), f"{wish} y:=1.0.0 a:* z:*", 5, 6)

    def test_many_versions_each(self):
        for names, versions in ((2, 64), (4, 32), (8, 16), (16, 8), (32, 4)):
            register = rows(*falling(names, versions))
            last = letters(names - 1)
            middle = versions // 2
            self.blamed(register, f"aa:<{middle}.0.0 {last}:>0.0.0 aa:* {last}:<{middle}.0.0")
            self.blamed(register, f"aa:<{middle}.0.0 {last}:>0.0.0 aa:* {last}:>{middle}.0.0", 0, 3)
            self.blamed(register, f"{last}:={versions - 1}.0.0 aa:>{middle}.0.0 aa:<{versions - 1}.0.0", 0, 2)

    def test_as_pk_choose_tells(self):
        """There's a choice for each smaller part of what is blamed, and none for all of it."""
        source = random.Random(9)
        sizes = []
        for _ in range(60):
            names = [letters(k) for k in range(source.choice((8, 16, 32)))]
            count = 128 // len(names)
            lines = []
            for name, v in itertools.product(names, range(count)):
                needs = []
                for _ in range(source.randint(0, 3)):
                    low = source.randrange(count)
                    needs.append(f"{source.choice(names)}:>{low}.0.0&<{low + source.randint(1, count)}.0.0")
                lines.append(" ".join([f"{name} {v}.0.0"] + needs))
            wishes = [f"{source.choice(names)}:>{source.randrange(count)}.0.0" for _ in range(8)]
            answer = core(rows(*lines), " ".join(wishes))
            blamed = [wishes[number] for number in answer[1:]]
            sizes.append(answer[0])
            self.assertEqual(self.has_choice(lines, wishes), answer == [0])
            self.assertEqual(self.has_choice(lines, blamed), answer == [0])
            for place in range(len(blamed)):
                self.assertTrue(self.has_choice(lines, blamed[:place] + blamed[place + 1:]))
        self.assertGreater(len(set(sizes)), 2)

    def has_choice(self, lines, wishes):
        return pk_choose(MOST, list(rows(*lines).encode()), list(" ".join(wishes).encode())) != [-6]


class Calls(PkCoreCase):
    CASES = (
        ("", ""), (SeveralSets.REGISTER, "k:* l:* m:* b:* c:*"), (SeveralSets.REGISTER, "o:* x:*"), ("a 1.0.0", "b:*"),
        ("a", "a:*"), ("a 1.0.0", "a:* "), (OneToBlame.REGISTER, "a:* h:* g:*"),
    )

    def test_what_is_handed_in_stays(self):
        for register, wish in self.CASES:
            b = list(register.encode())
            wishes = list(wish.encode())
            answer = pk_core(b, wishes)
            self.assertEqual(b, list(register.encode()))
            self.assertEqual(wishes, list(wish.encode()))
            self.assertEqual(pk_core(Untouchable(b), Untouchable(wishes)), answer)

    def test_a_second_call_answers_like_the_first(self):
        for case in self.CASES:
            for between in self.CASES:
                first = core(*case)
                again = list(first)
                core(*between)
                second = core(*case)
                self.assertEqual(second, again)
                # What was given back is the caller's own: it may be changed.
                second.append(0)
                self.assertEqual(core(*case), again)


if __name__ == "__main__":
    unittest.main()
