"""The calls: each takes a part's text as a list of its bytes and answers a list of whole numbers."""

from cutparts.cells import cells_of, faces_of, mark_at
from cutparts.joining import joined
from cutparts.reading import read_text
from cutparts.showing import part_bytes, slice_rows

# What is added to the reasons of a second text, so that they differ from the first one's.
SECOND_TEXT = 16


def judge(text):
    refusal = refusal_of(read_text(text))
    if refusal:
        return refusal
    return [0]


def sizes(text):
    reading = read_text(text)
    refusal = refusal_of(reading)
    if refusal:
        return refusal
    block = reading.block
    cells = cells_of(block, reading.cuts)
    return [0] + block.size + [block.grain, len(reading.cuts), sum(cells.marks)]


def name(text):
    reading = read_text(text)
    refusal = refusal_of(reading)
    if refusal:
        return refusal
    return [len(reading.block.name)] + reading.block.name


def has(x, y, z, text):
    reading = read_text(text)
    refusal = refusal_of(reading)
    if refusal:
        return refusal
    return [mark_at((x, y, z), cells_of(reading.block, reading.cuts))]


def faces(text):
    reading = read_text(text)
    refusal = refusal_of(reading)
    if refusal:
        return refusal
    return [0] + faces_of(cells_of(reading.block, reading.cuts))


def pieces(text):
    reading = read_text(text)
    refusal = refusal_of(reading)
    if refusal:
        return refusal
    groups = joined(cells_of(reading.block, reading.cuts))
    answer = [len(groups)]
    for spots in groups:
        answer.extend([len(spots)] + list(spots[0]) + [lies_on_bottom(spots)])
    return answer


def piece(k, text):
    reading = read_text(text)
    refusal = refusal_of(reading)
    if refusal:
        return refusal
    groups = joined(cells_of(reading.block, reading.cuts))
    if k >= len(groups):
        return [-4]
    answer = [len(groups[k])]
    for spot in groups[k]:
        answer.extend(spot)
    return answer


def slice_of(z, text):
    reading = read_text(text)
    refusal = refusal_of(reading)
    if refusal:
        return refusal
    if z >= reading.block.size[2]:
        return [-4]
    codes = slice_rows(z, cells_of(reading.block, reading.cuts))
    return [len(codes)] + codes


def bytes_of(text):
    reading = read_text(text)
    refusal = refusal_of(reading)
    if refusal:
        return refusal
    codes = part_bytes(reading.block, cells_of(reading.block, reading.cuts))
    return [len(codes)] + codes


def same(text, other):
    first = read_text(text)
    second = read_text(other)
    refusal = refusal_of_two(first, second)
    if refusal:
        return refusal
    cells = cells_of(first.block, first.cuts)
    others = cells_of(second.block, second.cuts)
    return [1 if cells.size == others.size and cells.marks == others.marks else 0]


# The spots are in the order of z first, so none of them is lower than the first.
def lies_on_bottom(spots):
    return 1 if spots[0][2] == 0 else 0


def refusal_of(reading):
    if reading.too_long:
        return [-2]
    if reading.fault is not None:
        return [-6] + list(reading.fault)
    return []


def refusal_of_two(first, second):
    if first.too_long or second.too_long:
        return [-2]
    told = []
    if first.fault is not None:
        told.extend(first.fault)
    if second.fault is not None:
        told.extend([second.fault[0], second.fault[1] + SECOND_TEXT])
    if told:
        return [-6] + told
    return []
