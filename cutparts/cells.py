"""The cells of a block: one mark a cell, 1 if the part has it, else 0, in the order of z, y, x.

A cell is told by its spot (x, y, z) or by its place in that order.
"""

# By the number of the way: to the right, left, back, front, up, down.
WAYS = ((1, 0, 0), (-1, 0, 0), (0, 1, 0), (0, -1, 0), (0, 0, 1), (0, 0, -1))


class Cells:
    def __init__(self, size):
        self.size = size
        self.marks = [1] * (size[0] * size[1] * size[2])


# Marking a cell twice is the same as once, so neither the order of the cuts nor what they have
# in common matters.
def cells_of(block, cuts):
    cells = Cells(block.size)
    for cut in cuts:
        for place in places_of(cut, block.size):
            cells.marks[place] = 0
    return cells


def places_of(cut, size):
    places = []
    for z in range(cut.corner[2], cut.corner[2] + cut.size[2]):
        for y in range(cut.corner[1], cut.corner[1] + cut.size[1]):
            for x in range(cut.corner[0], cut.corner[0] + cut.size[0]):
                places.append(place_at((x, y, z), size))
    return places


def place_at(spot, size):
    return (spot[2] * size[1] + spot[1]) * size[0] + spot[0]


def spot_at(place, size):
    row = place // size[0]
    return (place % size[0], row % size[1], row // size[1])


def is_on_block(spot, size):
    return all([0 <= at < limit for at, limit in zip(spot, size)])


def mark_at(spot, cells):
    if not is_on_block(spot, cells.size):
        return 0
    return cells.marks[place_at(spot, cells.size)]


def spot_beside(spot, way):
    return tuple([at + step for at, step in zip(spot, way)])


def spots_left(cells):
    return [spot_at(place, cells.size) for place, mark in enumerate(cells.marks) if mark == 1]


def faces_of(cells):
    spots = spots_left(cells)
    return [count_faces(spots, way, cells) for way in WAYS]


def count_faces(spots, way, cells):
    return len([spot for spot in spots if mark_at(spot_beside(spot, way), cells) == 0])
