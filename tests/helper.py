"""What the tests share: texts, every call, and a second, plainer way to judge a text and tell its cells."""

import random
import re

from cutparts import parts

# Every call as one of a text alone; what else it takes is 0.
CALLS = {
    "judge": parts.judge,
    "sizes": parts.sizes,
    "name": parts.name,
    "has": lambda text: parts.has(0, 0, 0, text),
    "faces": parts.faces,
    "pieces": parts.pieces,
    "piece": lambda text: parts.piece(0, text),
    "slice": lambda text: parts.slice_of(0, text),
    "bytes": parts.bytes_of,
    "same": lambda text: parts.same(text, text_of("part b 8 8 8 x")),
}

NUMBER = "(0|[1-9][0-9]*)"
PART_LINE = re.compile("part ([a-z0-9]{1,12}) " + " ".join([NUMBER] * 3) + " ([xyz])")
CUT_LINE = re.compile("cut " + " ".join([NUMBER] * 6))


def codes(words):
    return list(words.encode("latin-1"))


def text_of(*lines):
    return codes("".join(line + "\n" for line in lines))


def bounded(numbers):
    return all(len(number) <= 2 and 1 <= int(number) <= 16 for number in numbers)


def formed(line):
    """("part", size, grain), ("cut", corner, size), or None."""
    part = PART_LINE.fullmatch(line)
    if part and bounded(part.groups()[1:4]):
        return ("part", [int(number) for number in part.groups()[1:4]], "xyz".index(part.group(5)))
    cut = CUT_LINE.fullmatch(line)
    if cut and bounded(cut.groups()[3:]):
        # 1000 stands for every longer number: no block reaches it.
        corner = [int(number) if len(number) < 4 else 1000 for number in cut.groups()[:3]]
        return ("cut", corner, [int(number) for number in cut.groups()[3:]])
    return None


def reasons(line, number, ended, block, cuts_before):
    """All reasons that hold of the line, in the document's order."""
    said = formed(line)
    if said is None or not ended:
        return [1]
    found = []
    if (said[0] == "part") != (number == 0):
        found.append(3)
    if said[0] == "cut" and block and any(c + s > b for c, s, b in zip(said[1], said[2], block)):
        found.append(4)
    if said[0] == "cut" and cuts_before >= 64:
        found.append(2)
    return found


def lines_of(text):
    """Each line, and whether it has its line feed."""
    rows = bytes(text).decode("latin-1").split("\n")
    rest = rows.pop()
    return [(row, True) for row in rows] + ([(rest, False)] if rest else [])


def refusal(text):
    """What every call answers of a text that is not right; None of one that is."""
    if len(text) > 16384:
        return [-2]
    lines = lines_of(text)
    if not lines:
        return [-6, 0, 3]
    block = None
    for number, (line, ended) in enumerate(lines):
        found = reasons(line, number, ended, block, number - 1)
        if found:
            return [-6, number, found[0]]
        if number == 0:
            block = formed(line)[1]
    return None


class Told:
    """What a right text tells: the cells are a set of (x, y, z)."""

    def __init__(self, text):
        first, *rest = [line for line, _ in lines_of(text)]
        self.name = list(PART_LINE.fullmatch(first).group(1).encode())
        self.size, self.grain = formed(first)[1:]
        self.cuts = [formed(line)[1:] for line in rest]
        self.cells = {spot for spot in self.spots() if not any(in_cut(spot, cut) for cut in self.cuts)}

    def spots(self):
        """The cells of the block, by z, then y, then x."""
        w, d, h = self.size
        return [(x, y, z) for z in range(h) for y in range(d) for x in range(w)]


def in_cut(spot, cut):
    return all(corner <= at < corner + size for at, corner, size in zip(spot, *cut))


def drawn(*layers, name="a", grain="x"):
    """A text of the cells that are drawn: from the bottom up, the rows of each layer from the back to the front."""
    layers = [layer.split() for layer in layers]
    d = len(layers[0])
    lines = ["part %s %d %d %d %s" % (name, len(layers[0][0]), d, len(layers), grain)]
    for z, rows in enumerate(layers):
        for number, row in enumerate(rows):
            for run in re.finditer("[.]+", row):
                lines.append("cut %d %d %d %d 1 1" % (run.start(), d - 1 - number, z, len(run.group())))
    return text_of(*lines)


def beside(one, other):
    return sum(abs(a - b) for a, b in zip(one, other)) == 1


def by_order(spot):
    return spot[::-1]


def pieces_of(cells):
    """The pieces, each a list of its cells in order: every cell joins what it is beside."""
    found = []
    for cell in sorted(cells, key=by_order):
        near = [piece for piece in found if any(beside(cell, other) for other in piece)]
        found = [piece for piece in found if piece not in near] + [sum(near, []) + [cell]]
    return sorted((sorted(piece, key=by_order) for piece in found), key=lambda piece: by_order(piece[0]))


def expected(text):
    """(what judge answers, what sizes answers), worked out from the text as a whole."""
    refused = refusal(text)
    if refused:
        return refused, refused
    told = Told(text)
    return [0], [0] + told.size + [told.grain, len(told.cuts), len(told.cells)]


def some_cut(rng, block):
    """A cut line that lies within the block."""
    corner = [rng.randrange(limit) for limit in block]
    size = [rng.randint(1, limit - at) for at, limit in zip(corner, block)]
    return "cut " + " ".join(str(number) for number in corner + size)


def some_lines(seed):
    """The lines of a right text, the same ones for the same seed."""
    rng = random.Random(seed)
    block = [rng.randint(1, rng.choice((3, 8, 16))) for _ in range(3)]
    first = "part p%d %d %d %d %s" % (seed, *block, rng.choice("xyz"))
    return [first] + [some_cut(rng, block) for _ in range(rng.randint(0, 8))]


def some_drawing(seed):
    """A text of a small block whose cells are left or cut one by one."""
    rng = random.Random(seed)
    w, d, h = [rng.randint(1, limit) for limit in (5, 4, 4)]
    signs = rng.choice(("#.", "##.", "#..", "###."))
    rows = ["".join(rng.choice(signs) for _ in range(w)) for _ in range(d * h)]
    return drawn(*[" ".join(rows[z * d:z * d + d]) for z in range(h)], grain=rng.choice("xyz"))
