"""The calls: each takes a part's text as a list of its bytes and answers a list of whole numbers."""

from cutparts.cells import cells_of, faces_of, mark_at
from cutparts.joining import joined
from cutparts.reading import read_text
from cutparts.showing import slice_rows


def judge(text):
    refusal = refusal_of(read_text(text))
    if refusal:
        return refusal
    return [0]


def sizes(text):
    reading = read_text(text)
    refusal = refusal_of(reading)
    if refusal:
        return refusal
    block = reading.block
    cells = cells_of(block, reading.cuts)
    return [0] + block.size + [block.grain, len(reading.cuts), sum(cells.marks)]


def name(text):
    reading = read_text(text)
    refusal = refusal_of(reading)
    if refusal:
        return refusal
    return [len(reading.block.name)] + reading.block.name


def has(x, y, z, text):
    reading = read_text(text)
    refusal = refusal_of(reading)
    if refusal:
        return refusal
    return [mark_at((x, y, z), cells_of(reading.block, reading.cuts))]


def faces(text):
    reading = read_text(text)
    refusal = refusal_of(reading)
    if refusal:
        return refusal
    return [0] + faces_of(cells_of(reading.block, reading.cuts))


def pieces(text):
    reading = read_text(text)
    refusal = refusal_of(reading)
    if refusal:
        return refusal
    groups = joined(cells_of(reading.block, reading.cuts))
    answer = [len(groups)]
    for spots in groups:
        answer.extend([len(spots)] + list(spots[0]) + [lies_on_bottom(spots)])
    return answer


def piece(k, text):
    reading = read_text(text)
    refusal = refusal_of(reading)
    if refusal:
        return refusal
    groups = joined(cells_of(reading.block, reading.cuts))
    if k >= len(groups):
        return [-4]
    answer = [len(groups[k])]
    for spot in groups[k]:
        answer.extend(spot)
    return answer


def slice_of(z, text):
    reading = read_text(text)
    refusal = refusal_of(reading)
    if refusal:
        return refusal
    if z >= reading.block.size[2]:
        return [-4]
    codes = slice_rows(z, cells_of(reading.block, reading.cuts))
    return [len(codes)] + codes


# The spots are in the order of z first, so none of them is lower than the first.
def lies_on_bottom(spots):
    return 1 if spots[0][2] == 0 else 0


def refusal_of(reading):
    if reading.too_long:
        return [-2]
    if reading.fault is not None:
        return [-6] + list(reading.fault)
    return []
