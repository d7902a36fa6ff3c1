"""What the tests share: texts, and a second, plainer way to judge and count them."""

import random
import re

NUMBER = "(0|[1-9][0-9]*)"
PART_LINE = re.compile("part ([a-z0-9]{1,12}) " + " ".join([NUMBER] * 3) + " ([xyz])")
CUT_LINE = re.compile("cut " + " ".join([NUMBER] * 6))


def codes(words):
    return list(words.encode("latin-1"))


def text_of(*lines):
    return codes("".join(line + "\n" for line in lines))


def bounded(numbers):
    return all(len(number) <= 2 and 1 <= int(number) <= 16 for number in numbers)


def formed(line):
    """("part", size, grain), ("cut", corner, size), or None."""
    part = PART_LINE.fullmatch(line)
    if part and bounded(part.groups()[1:4]):
        return ("part", [int(number) for number in part.groups()[1:4]], "xyz".index(part.group(5)))
    cut = CUT_LINE.fullmatch(line)
    if cut and bounded(cut.groups()[3:]):
        # 1000 stands for every longer number: no block reaches it.
        corner = [int(number) if len(number) < 4 else 1000 for number in cut.groups()[:3]]
        return ("cut", corner, [int(number) for number in cut.groups()[3:]])
    return None


def reasons(line, number, ended, block, cuts_before):
    """All reasons that hold of the line, in the document's order."""
    said = formed(line)
    if said is None or not ended:
        return [1]
    found = []
    if (said[0] == "part") != (number == 0):
        found.append(3)
    if said[0] == "cut" and block and any(c + s > b for c, s, b in zip(said[1], said[2], block)):
        found.append(4)
    if said[0] == "cut" and cuts_before >= 64:
        found.append(2)
    return found


def expected(text):
    """(what judge answers, what sizes answers), worked out from the text as a whole."""
    if len(text) > 16384:
        return [-2], [-2]
    rows = bytes(text).decode("latin-1").split("\n")
    rest = rows.pop()
    lines = [(row, True) for row in rows] + ([(rest, False)] if rest else [])
    if not lines:
        return [-6, 0, 3], [-6, 0, 3]
    block = None
    for number, (line, ended) in enumerate(lines):
        found = reasons(line, number, ended, block, number - 1)
        if found:
            return [-6, number, found[0]], [-6, number, found[0]]
        if number == 0:
            block = formed(line)[1]
    grain = formed(lines[0][0])[2]
    cuts = [formed(line) for line, _ in lines[1:]]
    return [0], [0] + block + [grain, len(cuts), count_left(block, cuts)]


def count_left(block, cuts):
    left = 0
    for x in range(block[0]):
        for y in range(block[1]):
            for z in range(block[2]):
                gone = any(
                    all(c <= at < c + s for at, c, s in zip((x, y, z), corner, size))
                    for _, corner, size in cuts
                )
                left += not gone
    return left


def some_cut(rng, block):
    """A cut line that lies within the block."""
    corner = [rng.randrange(limit) for limit in block]
    size = [rng.randint(1, limit - at) for at, limit in zip(corner, block)]
    return "cut " + " ".join(str(number) for number in corner + size)


def some_lines(seed):
    """The lines of a right text, the same ones for the same seed."""
    rng = random.Random(seed)
    block = [rng.randint(1, rng.choice((3, 8, 16))) for _ in range(3)]
    first = "part p%d %d %d %d %s" % (seed, *block, rng.choice("xyz"))
    return [first] + [some_cut(rng, block) for _ in range(rng.randint(0, 8))]
