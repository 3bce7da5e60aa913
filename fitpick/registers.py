"""Registers of packages in versions, with what each version needs.

A text is a list of bytes. A name is kept as a tuple of its bytes, a version as a tuple of its three numbers.
"""

LINE_END = 10
SPACE = 32
AMPERSAND = 38
STAR = 42
POINT = 46
ZERO = 48
NINE = 57
COLON = 58
SMALL_A = 97
SMALL_Z = 122

# The signs that stand before a version in a range: = > < ~ ^
RANGE_SIGNS = (61, 62, 60, 126, 94)
AT_LEAST = 62

MOST_FIGURES = 3
VERSION_NUMBERS = 3
MOST_RANGE_PARTS = 4
MOST_LETTERS = 16
MOST_NEEDS = 8
MOST_LINES = 128


class WrongText(Exception):
    pass


class WrongLine(Exception):
    def __init__(self, number):
        self.number = number


class Line:
    def __init__(self, name, version, needs):
        self.name = name
        self.version = version
        self.needs = needs


def split_at(text, mark):
    pieces = []
    start = 0
    for place, byte in enumerate(text):
        if byte == mark:
            pieces.append(text[start:place])
            start = place + 1
    pieces.append(text[start:])
    return pieces


def split_lines(text):
    pieces = split_at(text, LINE_END)
    # Behind the last line's end (or in an empty text) stands nothing that would be a line.
    if len(pieces[-1]) == 0:
        pieces.pop()
    return pieces


def read_name(text):
    if len(text) < 1 or len(text) > MOST_LETTERS:
        raise WrongText("a name has 1 to 16 letters")
    for byte in text:
        if byte < SMALL_A or byte > SMALL_Z:
            raise WrongText("a name has small letters alone")
    return tuple(text)


def read_number(text):
    if len(text) < 1 or len(text) > MOST_FIGURES:
        raise WrongText("a number has one to three figures")
    if len(text) > 1 and text[0] == ZERO:
        raise WrongText("a number has no 0 in front of other figures")
    number = 0
    for byte in text:
        if byte < ZERO or byte > NINE:
            raise WrongText("a number has figures alone")
        number = number * 10 + byte - ZERO
    return number


def read_version(text):
    pieces = split_at(text, POINT)
    if len(pieces) != VERSION_NUMBERS:
        raise WrongText("a version has three numbers")
    return tuple([read_number(piece) for piece in pieces])


def read_range_part(text):
    if text == [STAR]:
        # No version is less than 0.0.0, so this is any version without a case of its own.
        return (AT_LEAST, (0, 0, 0))
    if len(text) == 0 or text[0] not in RANGE_SIGNS:
        raise WrongText("a range's part begins with one of its signs")
    return (text[0], read_version(text[1:]))


def read_range(text):
    pieces = split_at(text, AMPERSAND)
    if len(pieces) > MOST_RANGE_PARTS:
        raise WrongText("a range has one to four parts")
    return [read_range_part(piece) for piece in pieces]


def read_need(text):
    pieces = split_at(text, COLON)
    if len(pieces) != 2:
        raise WrongText("a need has one colon")
    return (read_name(pieces[0]), read_range(pieces[1]))


def read_line(text):
    words = split_at(text, SPACE)
    if len(words) < 2 or len(words) > 2 + MOST_NEEDS:
        raise WrongText("a line has a name, a version and up to eight needs")
    needs = [read_need(word) for word in words[2:]]
    return Line(read_name(words[0]), read_version(words[1]), needs)


def read_lines(b):
    lines = []
    seen = {}
    for number, text in enumerate(split_lines(b), start=1):
        if number > MOST_LINES:
            raise WrongLine(number)
        try:
            line = read_line(text)
        except WrongText:
            raise WrongLine(number) from None
        if (line.name, line.version) in seen:
            raise WrongLine(number)
        seen[(line.name, line.version)] = True
        lines.append(line)
    return lines


def pk_read(b):
    try:
        lines = read_lines(b)
    except WrongLine as e:
        return [-1, e.number]
    return [len(lines)]
