"""The pieces into which a part falls."""

from cutparts.cells import WAYS, mark_at, place_at, spot_at, spot_beside

NO_PIECE = -1


# Each piece is a list of its spots. Both the pieces and the spots of each come out in the order
# of the cells, since these are gone through in that order to find a piece's first one and again
# to gather its spots.
def joined(cells):
    numbers = [NO_PIECE] * len(cells.marks)
    count = 0
    for place, mark in enumerate(cells.marks):
        if mark == 1 and numbers[place] == NO_PIECE:
            number_piece(place, count, numbers, cells)
            count += 1
    groups = [[] for number in range(count)]
    for place, number in enumerate(numbers):
        if number != NO_PIECE:
            groups[number].append(spot_at(place, cells.size))
    return groups


def number_piece(first, number, numbers, cells):
    numbers[first] = number
    waiting = [first]
    while waiting:
        place = waiting.pop()
        for other in places_beside(place, cells):
            if numbers[other] == NO_PIECE:
                numbers[other] = number
                waiting.append(other)


def places_beside(place, cells):
    spot = spot_at(place, cells.size)
    beside = [spot_beside(spot, way) for way in WAYS]
    return [place_at(other, cells.size) for other in beside if mark_at(other, cells) == 1]
