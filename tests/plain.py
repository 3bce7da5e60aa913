"""What the document asks for, by going through all that could be chosen: slow, and by another way than the program's.

Registers, wishes and earlier choices are texts here. A line is (name, version, needs), a need is (name, range).
"""

import itertools

MOST = 32768


def rows(*lines):
    return "".join(f"{line}\n" for line in lines)


def version_of(text):
    return tuple(int(number) for number in text.split("."))


def part_fits(part, version):
    if part == "*":
        return True
    own = version_of(part[1:])
    if part[0] == "=":
        return version == own
    if part[0] == ">":
        return version >= own
    if part[0] == "<":
        return version < own
    same = 2
    if part[0] == "^":
        same = 1 if own[0] != 0 else 2 if own[1] != 0 else 3
    return version >= own and version[:same] == own[:same]


def fits(parts, version):
    return all(part_fits(part, version) for part in parts.split("&"))


def needs_of(words):
    return [tuple(word.split(":")) for word in words]


def lines_of(text):
    rows = [row.split(" ") for row in text.split("\n") if row != ""]
    return [(row[0], version_of(row[1]), needs_of(row[2:])) for row in rows]


def is_choice(chosen, wishes):
    """chosen: some of the register's lines, by name."""
    needs = wishes + [need for line in chosen.values() for need in line[2]]
    if not all(name in chosen and fits(parts, chosen[name][1]) for name, parts in needs):
        return False
    names = {name for name, _ in wishes}
    while True:
        more = names | {need[0] for name in names for need in chosen[name][2]}
        if more == names:
            return names == set(chosen)
        names = more


def all_choices(lines, wishes):
    names = sorted({line[0] for line in lines})
    versions = [[None] + [line for line in lines if line[0] == name] for name in names]
    for some in itertools.product(*versions):
        chosen = {line[0]: line for line in some if line is not None}
        if is_choice(chosen, wishes):
            yield chosen


def common(chosen, old):
    earlier = {line[:2] for line in lines_of(old)}
    return len([line for line in chosen.values() if line[:2] in earlier])


def worth(chosen, lines, wishes):
    """Greater for the better one of two choices."""
    order = []
    for name in [wish[0] for wish in wishes] + sorted({line[0] for line in lines}):
        if name not in order:
            order.append(name)
    return [(0, chosen[name][1]) if name in chosen else (1, ()) for name in order]


def wishes_of(text):
    return needs_of(text.split(" ")) if text != "" else []


def best_choice(register, wish, old=""):
    """Of those with most lines in common with the earlier one; None if there's no choice."""
    lines = lines_of(register)
    wishes = wishes_of(wish)
    choices = list(all_choices(lines, wishes))
    if not choices:
        return None
    most = max(common(chosen, old) for chosen in choices)
    return max([chosen for chosen in choices if common(chosen, old) == most], key=lambda one: worth(one, lines, wishes))


def told(register, wish, old=""):
    """The best choice's text in the register's order; None if there's no choice."""
    best = best_choice(register, wish, old)
    if best is None:
        return None
    return text_of([line for line in lines_of(register) if line in best.values()])


def told_core(register, wish):
    """The numbers of the wishes that are to blame."""
    lines = lines_of(register)
    wishes = wishes_of(wish)
    for size in range(len(wishes) + 1):
        for numbers in itertools.combinations(range(len(wishes)), size):
            if not any(True for _ in all_choices(lines, [wishes[number] for number in numbers])):
                return list(numbers)
    return []


def led_to(chosen, name):
    """The names that one of these lines needs, at once or by others."""
    names = set()
    more = {need[0] for need in chosen[name][2]}
    while more:
        names |= more
        more = {need[0] for other in more for need in chosen[other][2]} - names
    return names


def in_order(chosen):
    """The names of a choice in the order that pk_order asks for."""
    order = []
    while len(order) < len(chosen):
        free = []
        for name in set(chosen) - set(order):
            if all(other in order or name in led_to(chosen, other) for other in led_to(chosen, name)):
                free.append(name)
        order.append(min(free))
    return order


def told_order(register, wish):
    """The best choice's text in the order that pk_order asks for; None if there's no choice."""
    best = best_choice(register, wish)
    return None if best is None else text_of([best[name] for name in in_order(best)])


def text_of(lines):
    return "".join(f"{line[0]} {'.'.join(str(number) for number in line[1])}\n" for line in lines)


def some_range(random, versions):
    parts = []
    for _ in range(random.choice((1, 1, 1, 2, 3, 4))):
        parts.append("*" if random.random() < 0.4 else random.choice("=><~^") + random.choice(versions))
    return "&".join(parts)


def some_register(random):
    """A small register, wishes and an earlier choice, by a random source that is handed in."""
    names = random.sample(["a", "b", "ab", "abc", "ba", "c", "d"], random.randint(1, 6))
    versions = [".".join(str(random.choice((0, 0, 1, 2, 9, 10))) for _ in range(3)) for _ in range(4)]
    heads = sorted({f"{name} {random.choice(versions)}" for name in names for _ in range(random.randint(1, 3))})
    random.shuffle(heads)

    def some_need():
        name = random.choice(names) if random.random() < 0.97 else "gone"
        return f"{name}:{some_range(random, versions)}"

    register = ""
    for head in heads:
        register += " ".join([head] + [some_need() for _ in range(random.choice((0, 1, 1, 2, 3)))]) + "\n"
    wish = " ".join(some_need() for _ in range(random.choice((0, 1, 1, 1, 2, 3))))
    old = "".join(f"{head}\n" for head in sorted(heads) if random.random() < 0.5)
    return register, wish, old


def letters(number):
    """Another name for each number, rising by its letters."""
    return "abcdefghijklmnopqrstuvwxyz"[number // 26] + "abcdefghijklmnopqrstuvwxyz"[number % 26]


def hubs(names):
    """Lines that need all these names, eight each, and the wishes for them."""
    lines = []
    for start in range(0, len(names), 8):
        lines.append(f"hub{letters(start)} 1.0.0 " + " ".join(f"{name}:*" for name in names[start:start + 8]))
    return lines, " ".join(f"{line.split(' ')[0]}:*" for line in lines)


def places(guests, rooms):
    """Each guest needs a room of its own: room j in version i is the one that guest i has."""
    lines = [f"g{letters(i)} {j}.0.0 r{letters(j)}:={i}.0.0" for i in range(guests) for j in range(rooms)]
    lines += [f"r{letters(j)} {i}.0.0" for j in range(rooms) for i in range(guests)]
    return rows(*lines), " ".join(f"g{letters(i)}:*" for i in range(guests))


def pairs(count):
    """Each is paired with another: in version j with the one of number j."""
    names = [f"p{letters(k)}" for k in range(count)]
    lines, wish = hubs(names)
    for i, j in itertools.permutations(range(count), 2):
        lines.append(f"{names[i]} {j}.0.0 {names[j]}:={i}.0.0")
    return rows(*lines), wish


def falling(names, versions):
    """Lines where each version of a name fits only the next name's versions that aren't above it."""
    lines = []
    for k in range(names):
        for v in range(versions):
            need = f" {letters(k + 1)}:<{v + 1}.0.0" if k + 1 < names else ""
            lines.append(f"{letters(k)} {v}.0.0{need}")
    return lines


def heads(lines):
    """Names and versions alone: all these lines as an earlier choice."""
    return rows(*[" ".join(line.split(" ")[:2]) for line in lines])


def two_sides(random, few, versions, many, others, sides="ab"):
    """Names on two sides; each version needs one of the other side. So of the many only one more can be kept than of
    the few."""
    first = [f"{sides[0]}{letters(k)}" for k in range(few)]
    second = [f"{sides[1]}{letters(k)}" for k in range(many)]
    lines = []
    for names, count, needed in ((first, versions, second), (second, others, first)):
        for name in names:
            lines += [f"{name} {v + 1}.0.0 {other}:*" for v, other in enumerate(random.sample(needed, count))]
    return rows(*lines), f"{second[0]}:*", heads(lines)


def told_by_walks(register, wish, old):
    """Where each line needs one name in any version, each choice is a walk from the wished name to one that was there."""
    lines = lines_of(register)
    wishes = wishes_of(wish)
    versions = {}
    for line in lines:
        versions.setdefault(line[0], []).append(line)
    best = None
    waiting = [({}, wishes[0][0])]
    while waiting:
        chosen, name = waiting.pop()
        if name in chosen:
            rank = (common(chosen, old), worth(chosen, lines, wishes))
            if best is None or rank > best[0]:
                best = (rank, chosen)
        else:
            waiting += [({**chosen, name: line}, line[2][0][0]) for line in versions[name]]
    return text_of([line for line in lines if line in best[1].values()])


def field(height, width):
    """Each version of a place needs another place beside it."""
    names = {place: f"n{letters(k)}" for k, place in enumerate(itertools.product(range(height), range(width)))}
    lines = []
    for (r, c), name in names.items():
        for v, other in enumerate(((r, c + 1), (r + 1, c), (r, c - 1), (r - 1, c))):
            if other in names:
                lines.append(f"{name} {v}.0.0 {names[other]}:*")
    return lines


def covering(random, tops, versions, leaves, each):
    """Of each top one version is chosen, and each brings in some leaves; these were all there earlier."""
    names = [f"l{letters(k)}" for k in range(leaves)]
    lines = []
    for k in range(tops):
        for v in range(versions):
            lines.append(f"t{letters(k)} {v}.0.0 " + " ".join(f"{name}:*" for name in random.sample(names, each)))
    wish = " ".join(f"t{letters(k)}:*" for k in range(tops))
    old = [f"{name} 1.0.0" for name in names]
    return rows(*lines, *old), wish, rows(*old)


def told_by_tops(register, wish, old):
    """Where tops bring in leaves: by going through all versions of the tops."""
    lines = lines_of(register)
    wishes = wishes_of(wish)
    leaves = {line[0]: line for line in lines if not line[2]}
    best = None
    for tops in itertools.product(*[[line for line in lines if line[0] == name] for name, _ in wishes]):
        names = {need[0] for top in tops for need in top[2]}
        if best is None or len(names) >= best[0][0]:
            chosen = {line[0]: line for line in tops} | {name: leaves[name] for name in names}
            rank = (len(names), worth(chosen, lines, wishes))
            if best is None or rank > best[0]:
                best = (rank, chosen)
    return text_of([line for line in lines if line in best[1].values()])


class Untouchable(list):
    """A list that tells when it is changed, were it only for a while."""

    def refuse(self, *args, **kwargs):
        raise RuntimeError("what was handed in is being changed")

    append = extend = insert = pop = remove = clear = sort = reverse = refuse
    __setitem__ = __delitem__ = __iadd__ = __imul__ = refuse
