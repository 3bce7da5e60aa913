"""What the document asks for, by going through all that could be chosen: slow, and by another way than the program's.

Registers, wishes and earlier choices are texts here. A line is (name, version, needs), a need is (name, range).
"""

import itertools


def version_of(text):
    return tuple(int(number) for number in text.split("."))


def part_fits(part, version):
    if part == "*":
        return True
    own = version_of(part[1:])
    if part[0] == "=":
        return version == own
    if part[0] == ">":
        return version >= own
    if part[0] == "<":
        return version < own
    same = 2
    if part[0] == "^":
        same = 1 if own[0] != 0 else 2 if own[1] != 0 else 3
    return version >= own and version[:same] == own[:same]


def fits(parts, version):
    return all(part_fits(part, version) for part in parts.split("&"))


def needs_of(words):
    return [tuple(word.split(":")) for word in words]


def lines_of(text):
    rows = [row.split(" ") for row in text.split("\n") if row != ""]
    return [(row[0], version_of(row[1]), needs_of(row[2:])) for row in rows]


def is_choice(chosen, wishes):
    """chosen: some of the register's lines, by name."""
    needs = wishes + [need for line in chosen.values() for need in line[2]]
    if not all(name in chosen and fits(parts, chosen[name][1]) for name, parts in needs):
        return False
    led_to = {name for name, _ in wishes}
    while True:
        more = led_to | {need[0] for name in led_to for need in chosen[name][2]}
        if more == led_to:
            return led_to == set(chosen)
        led_to = more


def all_choices(lines, wishes):
    names = sorted({line[0] for line in lines})
    versions = [[None] + [line for line in lines if line[0] == name] for name in names]
    for some in itertools.product(*versions):
        chosen = {line[0]: line for line in some if line is not None}
        if is_choice(chosen, wishes):
            yield chosen


def common(chosen, old):
    earlier = {line[:2] for line in lines_of(old)}
    return len([line for line in chosen.values() if line[:2] in earlier])


def worth(chosen, lines, wishes):
    """Greater for the better one of two choices."""
    order = []
    for name in [wish[0] for wish in wishes] + sorted({line[0] for line in lines}):
        if name not in order:
            order.append(name)
    return [(0, chosen[name][1]) if name in chosen else (1, ()) for name in order]


def told(register, wish, old=""):
    """The best choice's text, of those with most lines in common with the earlier one; None if there's no choice."""
    lines = lines_of(register)
    wishes = needs_of(wish.split(" ")) if wish != "" else []
    choices = list(all_choices(lines, wishes))
    if not choices:
        return None
    most = max(common(chosen, old) for chosen in choices)
    best = max([chosen for chosen in choices if common(chosen, old) == most], key=lambda one: worth(one, lines, wishes))
    return text_of([line for line in lines if line in best.values()])


def text_of(lines):
    return "".join(f"{line[0]} {'.'.join(str(number) for number in line[1])}\n" for line in lines)


def some_range(random, versions):
    parts = []
    for _ in range(random.choice((1, 1, 1, 2, 3, 4))):
        parts.append("*" if random.random() < 0.4 else random.choice("=><~^") + random.choice(versions))
    return "&".join(parts)


def some_register(random):
    """A small register, wishes and an earlier choice, by a random source that is handed in."""
    names = random.sample(["a", "b", "ab", "abc", "ba", "c", "d"], random.randint(1, 6))
    versions = [".".join(str(random.choice((0, 0, 1, 2, 9, 10))) for _ in range(3)) for _ in range(4)]
    heads = sorted({f"{name} {random.choice(versions)}" for name in names for _ in range(random.randint(1, 3))})
    random.shuffle(heads)

    def some_need():
        name = random.choice(names) if random.random() < 0.97 else "gone"
        return f"{name}:{some_range(random, versions)}"

    register = ""
    for head in heads:
        register += " ".join([head] + [some_need() for _ in range(random.choice((0, 1, 1, 2, 3)))]) + "\n"
    wish = " ".join(some_need() for _ in range(random.choice((0, 1, 1, 1, 2, 3))))
    old = "".join(f"{head}\n" for head in sorted(heads) if random.random() < 0.5)
    return register, wish, old


def letters(number):
    """Another name for each number, rising by its letters."""
    return "abcdefghijklmnopqrstuvwxyz"[number // 26] + "abcdefghijklmnopqrstuvwxyz"[number % 26]


def hubs(names):
    """Lines that need all these names, eight each, and the wishes for them."""
    rows = []
    for start in range(0, len(names), 8):
        rows.append(f"hub{letters(start)} 1.0.0 " + " ".join(f"{name}:*" for name in names[start:start + 8]))
    return rows, " ".join(f"{row.split(' ')[0]}:*" for row in rows)


class Untouchable(list):
    """A list that tells when it is changed, were it only for a while."""

    def refuse(self, *args, **kwargs):
        raise RuntimeError("what was handed in is being changed")

    append = extend = insert = pop = remove = clear = sort = reverse = refuse
    __setitem__ = __delitem__ = __iadd__ = __imul__ = refuse
