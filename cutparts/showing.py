"""A part's cells as signs, slice by slice, and the part as bytes."""

from cutparts.cells import mark_at


def slice_rows(z, cells):
    codes = []
    for y in range(cells.size[1] - 1, -1, -1):
        for x in range(cells.size[0]):
            codes.append(sign_of(mark_at((x, y, z), cells)))
        codes.append(ord("\n"))
    return codes


def sign_of(mark):
    return ord("#") if mark == 1 else ord(".")


def part_bytes(block, cells):
    codes = block.size + [block.grain]
    for length in run_lengths(cells.marks):
        codes.extend(number_bytes(length))
    return codes


# The first run is one of cells that the part has, even if there are none of them, so that the
# lengths alone tell which runs are of cells that it has.
def run_lengths(marks):
    lengths = []
    current = 1
    length = 0
    for mark in marks:
        if mark != current:
            lengths.append(length)
            current = mark
            length = 0
        length += 1
    lengths.append(length)
    return lengths


def number_bytes(number):
    codes = []
    rest = number
    while rest >= 128:
        codes.append(rest % 128 + 128)
        rest = rest // 128
    codes.append(rest)
    return codes
