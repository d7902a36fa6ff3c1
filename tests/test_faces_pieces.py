"""What faces and pieces answer."""

import itertools
import unittest

from cutparts.parts import faces, has, pieces, sizes
from tests.helper import Told, drawn, pieces_of, some_drawing, some_lines, text_of

# The step to the cell beside, by the number of the way.
STEPS = {0: (1, 0, 0), 1: (-1, 0, 0), 2: (0, 1, 0), 3: (0, -1, 0), 4: (0, 0, 1), 5: (0, 0, -1)}

# Parts whose pieces are one each, though a walk in one direction does not see it at once.
WINDING = (
    drawn("#####  ....#  ###.#  #...#  #####"),
    drawn("#.#  #.#  ###"),
    drawn("###  #.#  #.#"),
    drawn("..#  ..#  ###"),
    drawn("###  ..#  ###  #..  ###"),
    drawn("...  ..#", "#.#  #.#", "###  ..."),
    drawn("#.#", "#.#", "###"),
    drawn("###", "#.#", "#.#"),
)

# Pieces that have an edge or a corner alone in common.
TOUCHING = (
    drawn("#.  .#"), drawn(".#  #."),
    drawn("#.", ".#"), drawn(".#", "#."),
    drawn("#  .", ".  #"), drawn(".  #", "#  ."),
    drawn("#.  ..", "..  .#"), drawn(".#  ..", "..  #."), drawn("..  #.", ".#  .."), drawn("..  .#", "#.  .."),
)


def every_other():
    """A block of 128 cells, every other one cut away: 64 cuts."""
    cut = [(x, y, z) for z in range(4) for y in range(4) for x in range(8) if (x + y + z) % 2 == 0]
    return text_of("part a 8 4 4 x", *["cut %d %d %d 1 1 1" % spot for spot in cut])


def grid():
    """The largest block, every other layer cut away in each direction."""
    cuts = ["cut %d 0 0 1 16 16" % k for k in range(1, 16, 2)]
    cuts += ["cut 0 %d 0 16 1 16" % k for k in range(1, 16, 2)]
    cuts += ["cut 0 0 %d 16 16 1" % k for k in range(1, 16, 2)]
    return text_of("part a 16 16 16 x", *cuts)


def told(answer):
    """What pieces answers, as a tuple a piece."""
    rest = answer[1:]
    assert len(rest) == 5 * answer[0]
    return [tuple(rest[k:k + 5]) for k in range(0, len(rest), 5)]


class Faces(unittest.TestCase):
    def test_block_without_cuts(self):
        self.assertEqual(faces(text_of("part a 3 4 5 x")), [0, 20, 20, 15, 15, 12, 12])
        self.assertEqual(faces(text_of("part a 16 2 1 x")), [0, 2, 2, 16, 16, 32, 32])

    def test_one_cell(self):
        self.assertEqual(faces(text_of("part a 1 1 1 x")), [0, 1, 1, 1, 1, 1, 1])
        self.assertEqual(faces(drawn("...  .#.  ...")), [0, 1, 1, 1, 1, 1, 1])

    def test_nothing_left(self):
        self.assertEqual(faces(text_of("part a 1 1 1 x", "cut 0 0 0 1 1 1")), [0] * 7)
        self.assertEqual(faces(text_of("part a 5 4 3 x", "cut 0 0 0 5 4 3")), [0] * 7)

    def test_largest_block(self):
        self.assertEqual(faces(text_of("part a 16 16 16 z")), [0] + [256] * 6)
        self.assertEqual(faces(grid()), [0] + [512] * 6)

    def test_hole_within(self):
        self.assertEqual(faces(text_of("part a 5 5 5 x", "cut 2 2 2 1 1 1")), [0] + [26] * 6)
        self.assertEqual(faces(text_of("part a 5 6 7 x", "cut 1 1 1 1 2 3")), [0, 48, 48, 38, 38, 32, 32])

    def test_hole_through(self):
        self.assertEqual(faces(text_of("part a 3 3 3 x", "cut 1 1 0 1 1 3")), [0, 12, 12, 12, 12, 8, 8])

    def test_notch_at_an_edge(self):
        self.assertEqual(faces(text_of("part a 4 4 4 x", "cut 0 0 0 1 1 1")), [0] + [16] * 6)
        self.assertEqual(faces(text_of("part a 4 4 4 x", "cut 1 0 0 1 1 1")), [0, 17, 17, 16, 16, 16, 16])

    def test_every_other_cell(self):
        self.assertEqual(faces(every_other()), [0] + [64] * 6)

    def test_as_many_the_opposite_way(self):
        for seed in range(80):
            for text in (text_of(*some_lines(seed)), some_drawing(seed)):
                answer = faces(text)
                self.assertEqual(len(answer), 7)
                self.assertEqual(answer[1::2], answer[2::2], seed)

    def test_as_worked_out_another_way(self):
        lines = [text_of(*some_lines(seed)) for seed in range(40)]
        for text in lines + [some_drawing(seed) for seed in range(100)] + list(WINDING + TOUCHING):
            cells = Told(text).cells
            counts = [0] * 6
            for (x, y, z), (way, (i, j, k)) in itertools.product(cells, STEPS.items()):
                counts[way] += (x + i, y + j, z + k) not in cells
            self.assertEqual(faces(text), [0] + counts)

    def test_as_has_tells(self):
        text = text_of("part a 3 4 2 x", "cut 1 1 0 2 1 2", "cut 0 3 1 1 1 1")
        right = [(x, y, z) for x, y, z in itertools.product(range(3), range(4), range(2))
                 if has(x, y, z, text) == [1] and has(x + 1, y, z, text) == [0]]
        self.assertEqual(faces(text)[1], len(right))


class Pieces(unittest.TestCase):
    def test_block_without_cuts(self):
        self.assertEqual(pieces(text_of("part a 3 4 5 x")), [1, 60, 0, 0, 0, 1])

    def test_nothing_left(self):
        self.assertEqual(pieces(text_of("part a 3 4 5 x", "cut 0 0 0 3 4 5")), [0])
        self.assertEqual(pieces(text_of("part a 1 1 1 x", "cut 0 0 0 1 1 1")), [0])

    def test_one_cell(self):
        self.assertEqual(pieces(text_of("part a 1 1 1 x")), [1, 1, 0, 0, 0, 1])
        self.assertEqual(pieces(drawn("...  ..#  ...")), [1, 1, 2, 1, 0, 1])
        self.assertEqual(pieces(drawn("...  ...", ".#.  ...")), [1, 1, 1, 1, 1, 0])

    def test_hole_within(self):
        self.assertEqual(pieces(text_of("part a 5 5 5 x", "cut 1 1 1 3 3 3")), [1, 98, 0, 0, 0, 1])

    def test_piece_within_a_hole(self):
        shell = ["cut 1 1 1 3 3 1", "cut 1 1 3 3 3 1", "cut 1 1 1 3 1 3", "cut 1 3 1 3 1 3", "cut 1 1 1 1 3 3",
                 "cut 3 1 1 1 3 3"]
        self.assertEqual(pieces(text_of("part a 5 5 5 x", *shell)), [2, 98, 0, 0, 0, 1, 1, 2, 2, 2, 0])

    def test_parted_in_each_direction(self):
        self.assertEqual(pieces(text_of("part a 5 3 2 x", "cut 1 0 0 1 3 2")), [2, 6, 0, 0, 0, 1, 18, 2, 0, 0, 1])
        self.assertEqual(pieces(text_of("part a 3 5 2 x", "cut 0 1 0 3 1 2")), [2, 6, 0, 0, 0, 1, 18, 0, 2, 0, 1])
        self.assertEqual(pieces(text_of("part a 3 2 5 x", "cut 0 0 1 3 2 1")), [2, 6, 0, 0, 0, 1, 18, 0, 0, 2, 0])

    def test_joined_in_each_direction(self):
        for text in (drawn("##"), drawn("#  #"), drawn("#", "#")):
            self.assertEqual(pieces(text), [1, 2, 0, 0, 0, 1])

    def test_touching_at_an_edge_or_a_corner_alone(self):
        for text in TOUCHING:
            self.assertEqual([piece[0] for piece in told(pieces(text))], [1, 1])

    def test_winding(self):
        for text in WINDING:
            answer = told(pieces(text))
            self.assertEqual(len(answer), 1, answer)
            self.assertEqual(answer[0][0], sizes(text)[6])

    def test_first_cell_is_not_the_lowest_in_every_direction(self):
        self.assertEqual(pieces(drawn("###  ..#")), [1, 4, 2, 0, 0, 1])
        self.assertEqual(pieces(drawn("#.#  ..#  ###")), [2, 5, 0, 0, 0, 1, 1, 0, 2, 0, 1])
        self.assertEqual(pieces(drawn("..#  ...", "###  #..")), [1, 5, 2, 1, 0, 1])

    def test_numbered_by_z_then_y_then_x(self):
        text = drawn("..#  ...  #..", "...  #..  ...", "...  ...  ..#")
        firsts = [piece[1:4] for piece in told(pieces(text))]
        self.assertEqual(firsts, [(0, 0, 0), (2, 2, 0), (0, 1, 1), (2, 0, 2)])

    def test_on_the_bottom_and_above(self):
        self.assertEqual(pieces(drawn("##", "..", "##")), [2, 2, 0, 0, 0, 1, 2, 0, 0, 2, 0])
        self.assertEqual(pieces(drawn("..#", "#.#", "###")), [1, 6, 2, 0, 0, 1])
        self.assertEqual(pieces(drawn("...", "#.#")), [2, 1, 0, 0, 1, 0, 1, 2, 0, 1, 0])

    def test_every_other_cell(self):
        answer = told(pieces(every_other()))
        cells = sorted(Told(every_other()).cells, key=lambda spot: spot[::-1])
        self.assertEqual(answer, [(1, *spot, int(spot[2] == 0)) for spot in cells])
        self.assertEqual(len(answer), 64)

    def test_grid(self):
        even = range(0, 16, 2)
        self.assertEqual(told(pieces(grid())), [(1, x, y, z, int(z == 0)) for z in even for y in even for x in even])

    def test_largest_block(self):
        self.assertEqual(pieces(text_of("part a 16 16 16 z")), [1, 4096, 0, 0, 0, 1])

    def test_largest_block_that_winds(self):
        walls = ["cut %d 0 %d 15 16 1" % (k // 2 % 2, k) for k in range(1, 16, 2)]
        self.assertEqual(pieces(text_of("part a 16 16 16 z", *walls)), [1, 8 * 256 + 8 * 16, 0, 0, 0, 1])

    def test_together_all_cells(self):
        for seed in range(80):
            for text in (text_of(*some_lines(seed)), some_drawing(seed)):
                self.assertEqual(sum(piece[0] for piece in told(pieces(text))), sizes(text)[6], seed)

    def test_as_worked_out_another_way(self):
        for text in [some_drawing(seed) for seed in range(200)] + list(WINDING + TOUCHING):
            found = pieces_of(Told(text).cells)
            self.assertEqual(told(pieces(text)), [(len(piece), *piece[0], int(any(c[2] == 0 for c in piece)))
                                                  for piece in found])


if __name__ == "__main__":
    unittest.main()
