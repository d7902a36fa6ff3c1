"""A part's cells as signs, slice by slice."""

from cutparts.cells import mark_at


def slice_rows(z, cells):
    codes = []
    for y in range(cells.size[1] - 1, -1, -1):
        for x in range(cells.size[0]):
            codes.append(sign_of(mark_at((x, y, z), cells)))
        codes.append(ord("\n"))
    return codes


def sign_of(mark):
    return ord("#") if mark == 1 else ord(".")
