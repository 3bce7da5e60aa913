"""Promise 1: pk_read."""

import re
import unittest

from fitpick.registers import pk_read
from plain import Untouchable

NUMBER = rb"(?:0|[1-9][0-9]{0,2})"
VERSION = NUMBER + rb"\." + NUMBER + rb"\." + NUMBER
PART = rb"(?:\*|[=><~^]" + VERSION + rb")"
NEED = rb"[a-z]{1,16}:" + PART + rb"(?:&" + PART + rb"){0,3}"
LINE = re.compile(rb"([a-z]{1,16} " + VERSION + rb")(?: " + NEED + rb"){0,8}")


def told(register):
    """What the document asks for, by another way than the program's."""
    rows = register.split(b"\n")
    if rows[-1] == b"":
        rows.pop()
    heads = []
    for number, row in enumerate(rows, start=1):
        match = LINE.fullmatch(row)
        if match is None or match.group(1) in heads or number > 128:
            return [-1, number]
        heads.append(match.group(1))
    return [len(rows)]


def read(text):
    return pk_read(list(text.encode("latin-1")))


def many(count):
    return "".join(f"pack 1.{k // 100}.{k % 100}\n" for k in range(count))


class PkReadCase(unittest.TestCase):
    def lines(self, count, *texts):
        for text in texts:
            with self.subTest(text=text):
                answer = read(text)
                self.assertEqual(answer, [count])
                self.assertIs(type(answer), list)
                self.assertIs(type(answer[0]), int)

    def wrong(self, number, *texts):
        for text in texts:
            with self.subTest(text=text):
                answer = read(text)
                self.assertEqual(answer, [-1, number])
                self.assertEqual([type(x) for x in answer], [int, int])

    def good_range(self, *ranges):
        self.lines(1, *[f"a 1.2.3 b:{text}" for text in ranges])

    def wrong_range(self, *ranges):
        self.wrong(1, *[f"a 1.2.3 b:{text}" for text in ranges])


class Ordinary(PkReadCase):
    def test_empty_text_has_no_lines(self):
        self.assertEqual(pk_read([]), [0])

    def test_one_line_ended_or_not(self):
        self.lines(1, "a 1.2.3", "a 1.2.3\n")

    def test_several_lines_last_ended_or_not(self):
        self.lines(2, "a 1.2.3\nb 0.0.1", "a 1.2.3\nb 0.0.1\n")
        self.lines(3, "a 1.2.3 b:*\nb 0.0.1\nc 9.9.9 a:=1.2.3 b:<1.0.0\n")

    def test_needs_from_none_to_eight(self):
        for count in range(9):
            self.lines(1, "a 1.2.3" + " b:*" * count, "a 1.2.3" + " b:*" * count + "\n")

    def test_every_kind_of_range(self):
        self.good_range("*", "=1.2.3", ">1.2.3", "<1.2.3", "~1.2.3", "^1.2.3", "^0.0.0", "<0.0.0")

    def test_ranges_of_one_to_four_parts(self):
        self.good_range("*", ">1.0.0&<2.0.0", "*&*&*", "=1.2.3&~1.2.0&^1.0.0", ">0.1.0&<9.0.0&~1.2.0&^1.0.0")

    def test_needs_need_not_make_sense_together(self):
        self.lines(1, "a 1.2.3 a:=1.2.3", "a 1.2.3 gone:*", "a 1.2.3 b:=1.0.0 b:=2.0.0", "a 1.2.3 b:>2.0.0&<1.0.0")


class Lines(PkReadCase):
    def test_at_most_128(self):
        self.lines(127, many(127))
        self.lines(128, many(128), many(128)[:-1])

    def test_the_line_behind_128_is_wrong(self):
        self.wrong(129, many(129), many(129)[:-1], many(200), many(128) + "\n", many(128) + "Pack", many(128) + many(1))

    def test_a_wrong_line_before_the_129th_comes_first(self):
        self.wrong(128, many(127) + "x\n" + many(129), many(127) + many(2))

    def test_empty_line(self):
        self.wrong(1, "\n", "\n\n", "\na 1.2.3", "\na 1.2.3\n")
        self.wrong(2, "a 1.2.3\n\n", "a 1.2.3\n\nb 1.2.3\n", "a 1.2.3\n\n\n")

    def test_same_name_with_same_version(self):
        self.wrong(2, "a 1.2.3\na 1.2.3", "a 1.2.3\na 1.2.3\n", "a 1.2.3 b:*\na 1.2.3 c:*\n")
        self.wrong(3, "a 1.2.3\nb 1.2.3\na 1.2.3\n", "a 1.2.3\nb 1.2.3\nb 1.2.3\na 1.2.3\n")

    def test_same_name_with_another_version(self):
        self.lines(4, "a 1.2.3\na 1.2.4\na 1.3.3\na 2.2.3\n")
        self.lines(4, "a 1.11.1\na 11.1.1\na 1.1.11\na 111.1.1\n")

    def test_another_name_with_same_version(self):
        self.lines(4, "a 1.2.3\nb 1.2.3\naa 1.2.3\nab 1.2.3\n")

    def test_a_version_only_needed_is_not_had(self):
        self.lines(2, "a 1.2.3 b:=1.2.3\nb 1.2.3\n")

    def test_parts_left_out(self):
        self.wrong(1, "a", "1.2.3", "a ", " 1.2.3", "a b:*", "1.2.3 b:*", "a1.2.3", "1.2.3 a", "b:*")

    def test_one_space_between(self):
        self.wrong(1, "a  1.2.3", "a 1.2.3  b:*", "a 1.2.3 b:*  c:*", "a 1.2.3b:*", "a 1.2.3 b:*c:*", "a\t1.2.3")

    def test_no_space_ahead_or_behind(self):
        self.wrong(1, " a 1.2.3", "a 1.2.3 ", "a 1.2.3 \n", "a 1.2.3 b:* ", " ", "  ", "a 1.2.3" + " b:*" * 8 + " ")

    def test_no_other_line_end(self):
        self.wrong(1, "a 1.2.3\r\n", "a 1.2.3\rb 1.2.3", "a 1.2.3\x00")

    def test_nine_needs(self):
        self.wrong(1, "a 1.2.3" + " b:*" * 9, "a 1.2.3" + " b:*" * 20)


class Names(PkReadCase):
    def test_lengths_of_the_own_name(self):
        self.lines(1, "q 1.2.3", "q" * 16 + " 1.2.3")
        self.wrong(1, " 1.2.3", "q" * 17 + " 1.2.3", "q" * 300 + " 1.2.3")

    def test_lengths_of_a_needed_name(self):
        self.lines(1, "a 1.2.3 q:*", "a 1.2.3 " + "q" * 16 + ":*")
        self.wrong(1, "a 1.2.3 :*", "a 1.2.3 " + "q" * 17 + ":*")

    def test_every_byte_as_a_letter(self):
        for byte in range(256):
            letter = bytes([byte]).decode("latin-1")
            texts = [f"{letter} 1.2.3", f"a{letter}b 1.2.3", f"a 1.2.3 {letter}:*", f"a 1.2.3 b{letter}c:*"]
            if letter in "abcdefghijklmnopqrstuvwxyz":
                self.lines(1, *texts)
            elif letter != "\n":
                self.wrong(1, *texts)


class Versions(PkReadCase):
    def both(self, check, *versions):
        for version in versions:
            check(1, f"a {version}", *[f"a 1.2.3 b:{sign}{version}" for sign in "=><~^"])

    def test_one_to_three_figures(self):
        self.both(self.lines, "0.0.0", "9.9.9", "10.99.100", "999.999.999", "1.20.300", "100.0.10")

    def test_four_figures_or_none(self):
        self.both(self.wrong, "1000.2.3", "1.1000.3", "1.2.1000", "0000.0.0", ".2.3", "1..3", "1.2.", "..", "")

    def test_no_0_in_front_of_others(self):
        self.both(self.wrong, "01.2.3", "1.02.3", "1.2.03", "00.0.0", "0.00.0", "0.0.00", "001.2.3", "010.2.3", "000.1.1")

    def test_three_numbers(self):
        self.both(self.wrong, "1", "1.2", "1.2.3.4", ".1.2.3", "1.2.3.", "1,2,3", "1.2,3")

    def test_every_byte_as_a_figure(self):
        for byte in range(256):
            figure = bytes([byte]).decode("latin-1")
            versions = [f"{figure}.2.3", f"1.2{figure}.3", f"1.2.3{figure}0"]
            if figure in "0123456789":
                self.both(self.lines, *versions)
            elif figure not in "\n &":
                self.both(self.wrong, *versions)


class Ranges(PkReadCase):
    def test_five_parts(self):
        self.wrong_range("*&*&*&*&*", ">1.0.0&<2.0.0&>1.0.1&<1.9.9&*")

    def test_empty_parts(self):
        self.wrong_range("", "&", "*&", "&*", "*&&*", "=1.2.3&", "&=1.2.3", "*&*&*&")

    def test_signs(self):
        self.wrong_range("1.2.3", "==1.2.3", ">=1.2.3", "<=1.2.3", "=", ">", "<", "~", "^", "!1.2.3", "= 1.2.3")

    def test_star_stands_alone(self):
        self.wrong_range("**", "*1.2.3", "=*", "*=1.2.3", "=1.2.*", "^1.2.3*")

    def test_every_part_is_looked_at(self):
        self.wrong_range("x&*&*&*", "*&x&*&*", "*&*&x&*", "*&*&*&x", "*,*", "* & *", "*|*")

    def test_every_byte_as_a_sign(self):
        for byte in range(256):
            sign = bytes([byte]).decode("latin-1")
            if sign in "=><~^":
                self.good_range(f"{sign}1.2.3", f"*&{sign}1.2.3")
            elif sign != "\n":
                self.wrong_range(f"{sign}1.2.3", f"*&{sign}1.2.3")

    def test_one_colon(self):
        self.wrong(1, "a 1.2.3 b", "a 1.2.3 b*", "a 1.2.3 b::*", "a 1.2.3 b:*:", "a 1.2.3 :b:*", "a 1.2.3 b:c:*")
        self.wrong(1, "a 1.2.3 :", "a 1.2.3 b=1.2.3", "a: 1.2.3", "a:* 1.2.3", "a:*")

    def test_every_need_is_looked_at(self):
        for place in range(8):
            needs = ["b:*"] * 8
            needs[place] = "b:1.2.3"
            self.wrong(1, "a 1.2.3 " + " ".join(needs))


class WrongLines(PkReadCase):
    FAULTS = (
        "", " ", "b", "b 1.2", "B 1.2.3", "b 01.2.3", "b 1.2.1000", "b 1.2.3 ", " b 1.2.3", "b  1.2.3", "b 1.2.3 c",
        "b 1.2.3 c:", "b 1.2.3 :*", "b 1.2.3 c:1.2.3", "b 1.2.3 c:*&*&*&*&*", "b 1.2.3" + " c:*" * 9,
        "b" * 17 + " 1.2.3", "b 1.2.3 " + "c" * 17 + ":*", "a 1.0.0", "b 1.2.3 c:>01.0.0", "\x00", "\xff",
    )

    def test_each_fault_at_each_place(self):
        for fault in self.FAULTS:
            for place in range(1, 6):
                rows = ["c 1.0.0", "a 1.0.1", "a 1.1.0 c:*", "d 1.0.0"]
                # The line that one of the faults repeats stands ahead of it.
                rows.insert(0, "a 1.0.0")
                rows.insert(place, fault)
                self.wrong(place + 1, "\n".join(rows) + "\n")

    def test_the_first_of_two_faults(self):
        for fault in self.FAULTS:
            for later in self.FAULTS:
                self.wrong(2, f"a 1.0.0\n{fault}\n{later}\nc 1.0.0\n")
                self.wrong(3, f"a 1.0.0\nc 1.0.0\n{fault}\nd 1.0.0\n{later}\n")


class EveryByte(PkReadCase):
    BASES = (
        b"ab 1.20.3 c:*&^0.1.0 d:=9.9.9\nab 1.20.4\nc 0.0.1 ab:~1.0.0\n",
        b"a 1.0.0\nb 1.0.0\na 10.0.0\nb 1.0.1",
    )

    def test_every_byte_alone(self):
        for byte in range(256):
            self.assertEqual(pk_read([byte]), [-1, 1])

    def test_every_byte_in_every_place(self):
        for base in self.BASES:
            for place in range(len(base) + 1):
                for byte in range(256):
                    other = base[:place] + bytes([byte])
                    for changed in (other + base[place + 1:], other + base[place:]):
                        self.assertEqual(pk_read(list(changed)), told(changed), changed)

    def test_every_byte_left_out_and_every_beginning(self):
        for base in self.BASES:
            for place in range(len(base)):
                for changed in (base[:place] + base[place + 1:], base[:place]):
                    self.assertEqual(pk_read(list(changed)), told(changed), changed)


class Long(PkReadCase):
    def full(self):
        """128 lines of 256 bytes each."""
        fit = ":>1.0.0&<222.333.44"
        needs = (" " + "b" * 10 + fit) * 7 + " " + "b" * 13 + fit
        return "".join(f"pack 1.1.{100 + k}{needs}\n" for k in range(128))

    def test_as_many_bytes_as_may_be(self):
        text = self.full()
        self.assertEqual(len(text), 32768)
        self.lines(128, text)
        self.wrong(128, text[:-2] + "x\n")

    def test_one_sign_over_and_over(self):
        for byte in (10, 32, 38, 42, 46, 48, 58, 97, 0, 255):
            self.assertEqual(pk_read([byte] * 32768), [-1, 1])

    def test_one_long_line(self):
        self.wrong(1, "a 1.2.3" + " b:*" * 8000, "a 1.2.3 b:*" + "&*" * 16000, "a 1" + ".1" * 16000)


class Calls(PkReadCase):
    TEXTS = ("", "\n", "a 1.2.3 b:*&>1.0.0\nb 1.2.3\n", "a 1.2.3\na 1.2.3\n", "a 1.2.3\nb 1.2\n", many(130))

    def test_what_is_handed_in_stays(self):
        for text in self.TEXTS:
            b = list(text.encode())
            pk_read(b)
            self.assertEqual(b, list(text.encode()))
            pk_read(Untouchable(b))

    def test_a_second_call_answers_like_the_first(self):
        for text in self.TEXTS:
            for between in self.TEXTS:
                b = list(text.encode())
                first = pk_read(b)
                self.assertEqual(first, told(text.encode()))
                read(between)
                second = pk_read(b)
                self.assertEqual(second, first)
                # What was given back is the caller's own: it may be changed.
                second.append(0)
                self.assertEqual(pk_read(b), first)


if __name__ == "__main__":
    unittest.main()
