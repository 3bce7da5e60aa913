"""Registers of packages in versions, with what each version needs.

A text is a list of bytes. A name is kept as a tuple of its bytes, a version as a tuple of its three numbers.
"""

from fitpick.blaming import find_core
from fitpick.keeping import find_best
from fitpick.ordering import order_lines

LINE_END = 10
SPACE = 32
AMPERSAND = 38
STAR = 42
POINT = 46
ZERO = 48
NINE = 57
COLON = 58
SMALL_A = 97
SMALL_Z = 122

# The signs that stand before a version in a range.
JUST = 61
AT_LEAST = 62
BELOW = 60
TILDE = 126
CARET = 94

MOST_FIGURES = 3
# The first number that has more figures.
NUMBERS_END = 1000
VERSION_NUMBERS = 3
MOST_RANGE_PARTS = 4
MOST_LETTERS = 16
MOST_NEEDS = 8
MOST_WISHES = 8
MOST_LINES = 128
MOST_BYTES = 32768


class WrongText(Exception):
    pass


class WrongLine(Exception):
    def __init__(self, number):
        self.number = number


class NoChoice(Exception):
    pass


class Line:
    def __init__(self, label, name, version, needs):
        # The bytes of the name, a space, the version.
        self.label = label
        self.name = name
        self.version = version
        self.needs = needs


def split_at(text, mark):
    pieces = []
    start = 0
    for place, byte in enumerate(text):
        if byte == mark:
            pieces.append(text[start:place])
            start = place + 1
    pieces.append(text[start:])
    return pieces


def split_lines(text):
    pieces = split_at(text, LINE_END)
    # Behind the last line's end (or in an empty text) stands nothing that would be a line.
    if len(pieces[-1]) == 0:
        pieces.pop()
    return pieces


def read_name(text):
    if len(text) < 1 or len(text) > MOST_LETTERS:
        raise WrongText("a name has 1 to 16 letters")
    for byte in text:
        if byte < SMALL_A or byte > SMALL_Z:
            raise WrongText("a name has small letters alone")
    return tuple(text)


def read_number(text):
    if len(text) < 1 or len(text) > MOST_FIGURES:
        raise WrongText("a number has one to three figures")
    if len(text) > 1 and text[0] == ZERO:
        raise WrongText("a number has no 0 in front of other figures")
    number = 0
    for byte in text:
        if byte < ZERO or byte > NINE:
            raise WrongText("a number has figures alone")
        number = number * 10 + byte - ZERO
    return number


def read_version(text):
    pieces = split_at(text, POINT)
    if len(pieces) != VERSION_NUMBERS:
        raise WrongText("a version has three numbers")
    return tuple([read_number(piece) for piece in pieces])


def end_of_same(version, count):
    # What stands first above all versions that have so many of their first numbers the same.
    same = list(version[:count])
    same[-1] += 1
    return tuple(same + [0] * (VERSION_NUMBERS - count))


def end_of_caret(version):
    if version[0] > 0:
        return end_of_same(version, 1)
    if version[1] > 0:
        return end_of_same(version, 2)
    return end_of_same(version, 3)


def read_range_part(text):
    # The least that fits, and the first above it that doesn't: all between fit, so these two tell the whole part.
    if text == [STAR]:
        return ((0, 0, 0), (NUMBERS_END, 0, 0))
    if len(text) == 0:
        raise WrongText("a range's part isn't empty")
    version = read_version(text[1:])
    if text[0] == JUST:
        return (version, end_of_same(version, 3))
    if text[0] == AT_LEAST:
        return (version, (NUMBERS_END, 0, 0))
    if text[0] == BELOW:
        return ((0, 0, 0), version)
    if text[0] == TILDE:
        return (version, end_of_same(version, 2))
    if text[0] == CARET:
        return (version, end_of_caret(version))
    raise WrongText("a range's part begins with one of its signs")


def read_range(text):
    pieces = split_at(text, AMPERSAND)
    if len(pieces) > MOST_RANGE_PARTS:
        raise WrongText("a range has one to four parts")
    parts = [read_range_part(piece) for piece in pieces]
    return (max([part[0] for part in parts]), min([part[1] for part in parts]))


def read_need(text):
    # The name, the least version that fits, and the first above it that doesn't.
    pieces = split_at(text, COLON)
    if len(pieces) != 2:
        raise WrongText("a need has one colon")
    fits = read_range(pieces[1])
    return (read_name(pieces[0]), fits[0], fits[1])


def read_line(text):
    words = split_at(text, SPACE)
    if len(words) < 2 or len(words) > 2 + MOST_NEEDS:
        raise WrongText("a line has a name, a version and up to eight needs")
    needs = [read_need(word) for word in words[2:]]
    label = words[0] + [SPACE] + words[1]
    return Line(label, read_name(words[0]), read_version(words[1]), needs)


def read_lines(b):
    lines = []
    seen = {}
    for number, text in enumerate(split_lines(b), start=1):
        if number > MOST_LINES:
            raise WrongLine(number)
        try:
            line = read_line(text)
        except WrongText:
            raise WrongLine(number) from None
        if (line.name, line.version) in seen:
            raise WrongLine(number)
        seen[(line.name, line.version)] = True
        lines.append(line)
    return lines


def pk_read(b):
    try:
        lines = read_lines(b)
    except WrongLine as e:
        return [-1, e.number]
    return [len(lines)]


def read_wishes(wish):
    if len(wish) == 0:
        return []
    words = split_at(wish, SPACE)
    if len(words) > MOST_WISHES:
        raise WrongText("there are up to eight wishes")
    return [read_need(word) for word in words]


def read_earlier(old):
    # The lines of an earlier choice: their names and versions are the dict's keys.
    earlier = {}
    for text in split_lines(old):
        words = split_at(text, SPACE)
        if len(words) != 2:
            raise WrongText("a line of an earlier choice has a name and a version")
        earlier[(read_name(words[0]), read_version(words[1]))] = True
    return earlier


def choose_lines(b, wish, old):
    # The lines of the best choice of those that keep most of the earlier one, in the register's order.
    lines = read_lines(b)
    numbers = find_best(lines, read_wishes(wish), read_earlier(old))
    if numbers is None:
        raise NoChoice()
    return [lines[number] for number in numbers]


def write_lines(lines):
    text = []
    for line in lines:
        text.extend(line.label)
        text.append(LINE_END)
    return text


def answer_lines(most, b, wish, old, in_order):
    if most > MOST_BYTES:
        return [-2]
    try:
        best = choose_lines(b, wish, old)
    except (WrongText, WrongLine):
        return [-1]
    except NoChoice:
        return [-6]
    text = write_lines(order_lines(best) if in_order else best)
    if len(text) > most:
        return [-5]
    return [len(text)] + text


def pk_choose(most, b, wish):
    # With an empty earlier choice all choices have equally many lines in common.
    return answer_lines(most, b, wish, [], False)


def pk_keep(most, b, wish, old):
    return answer_lines(most, b, wish, old, False)


def pk_core(b, wish):
    try:
        core = find_core(read_lines(b), read_wishes(wish))
    except (WrongText, WrongLine):
        return [-1]
    return [len(core)] + core


def pk_order(most, b, wish):
    return answer_lines(most, b, wish, [], True)
