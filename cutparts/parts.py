"""The calls: each takes a part's text as a list of its bytes and answers a list of whole numbers."""

from cutparts.reading import read_text


def judge(text):
    refusal = refusal_of(read_text(text))
    if refusal:
        return refusal
    return [0]


def sizes(text):
    reading = read_text(text)
    refusal = refusal_of(reading)
    if refusal:
        return refusal
    block = reading.block
    cells = cells_of(block, reading.cuts)
    return [0] + block.size + [block.grain, len(reading.cuts), sum(cells)]


def refusal_of(reading):
    if reading.too_long:
        return [-2]
    if reading.fault is not None:
        return [-6] + list(reading.fault)
    return []


# One number a cell, in the order of z, y, x: marking a cell twice is the same as once, so neither
# the order of the cuts nor what they have in common matters.
def cells_of(block, cuts):
    cells = [1] * (block.size[0] * block.size[1] * block.size[2])
    for cut in cuts:
        for place in places_of(cut, block):
            cells[place] = 0
    return cells


def places_of(cut, block):
    places = []
    for z in range(cut.corner[2], cut.corner[2] + cut.size[2]):
        for y in range(cut.corner[1], cut.corner[1] + cut.size[1]):
            row = (z * block.size[1] + y) * block.size[0]
            for x in range(cut.corner[0], cut.corner[0] + cut.size[0]):
                places.append(row + x)
    return places
