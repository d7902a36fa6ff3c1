"""What piece and slice_of answer."""

import unittest

from cutparts.parts import has, piece, pieces, sizes, slice_of
from tests.helper import Told, by_order, codes, drawn, pieces_of, some_drawing, some_lines, text_of

FAR = 4294967295


def cells_told(answer):
    """What piece answers, as a list of (x, y, z)."""
    rest = answer[1:]
    assert len(rest) == 3 * answer[0]
    return [tuple(rest[k:k + 3]) for k in range(0, len(rest), 3)]


def texts():
    return [text_of(*some_lines(seed)) for seed in range(40)] + [some_drawing(seed) for seed in range(150)]


class Piece(unittest.TestCase):
    def fallen(self, text, found):
        """It falls into just these pieces, and has none behind them."""
        for k, cells in enumerate(found):
            self.assertEqual(cells_told(piece(k, text)), cells, k)
        for k in (len(found), len(found) + 1, 4096, FAR - 1, FAR):
            self.assertEqual(piece(k, text), [-4], k)

    def test_none(self):
        self.fallen(text_of("part a 1 1 1 x", "cut 0 0 0 1 1 1"), [])
        self.fallen(text_of("part a 4 3 2 x", "cut 0 0 0 4 3 2"), [])

    def test_one(self):
        self.fallen(text_of("part a 1 1 1 x"), [[(0, 0, 0)]])
        self.assertEqual(piece(0, text_of("part a 2 1 1 x")), [2, 0, 0, 0, 1, 0, 0])
        block = [(x, y, z) for z in range(4) for y in range(3) for x in range(2)]
        self.fallen(text_of("part a 2 3 4 x"), [block])

    def test_several(self):
        self.fallen(drawn("#.#  ..#  ##."), [[(0, 0, 0), (1, 0, 0)], [(2, 1, 0), (2, 2, 0)], [(0, 2, 0)]])
        self.fallen(drawn("#", ".", "#"), [[(0, 0, 0)], [(0, 0, 2)]])

    def test_k_is_handed_in_by_its_name(self):
        self.assertEqual(piece(k=1, text=drawn("#.#")), [1, 2, 0, 0])

    def test_in_order_though_it_winds(self):
        self.fallen(drawn("###  ..#"), [[(2, 0, 0), (0, 1, 0), (1, 1, 0), (2, 1, 0)]])
        self.fallen(drawn("..#  ...", "###  #.."), [[(2, 1, 0), (0, 0, 1), (0, 1, 1), (1, 1, 1), (2, 1, 1)]])

    def test_pieces_that_lie_within_one_another(self):
        text = drawn("#####  #...#  #.#.#  #...#  #####")
        ring = [(x, y, 0) for y in range(5) for x in range(5) if x in (0, 4) or y in (0, 4)]
        self.fallen(text, [ring, [(2, 2, 0)]])

    def test_largest_block(self):
        answer = piece(0, text_of("part a 16 16 16 x"))
        self.assertEqual(answer[:7], [4096, 0, 0, 0, 1, 0, 0])
        self.assertEqual(len(answer), 1 + 3 * 4096)
        self.assertEqual(answer[-3:], [15, 15, 15])

    def test_last_of_many(self):
        text = text_of("part a 16 16 16 x", *["cut %d 0 0 1 16 16" % k for k in range(1, 16, 2)],
                       *["cut 0 %d 0 16 1 16" % k for k in range(1, 16, 2)],
                       *["cut 0 0 %d 16 16 1" % k for k in range(1, 16, 2)])
        self.assertEqual(piece(511, text), [1, 14, 14, 14])
        self.assertEqual(piece(512, text), [-4])

    def test_as_pieces_tells(self):
        for text in texts():
            answer = pieces(text)
            for k in range(answer[0]):
                told = piece(k, text)
                self.assertEqual(told[:4], answer[1 + 5 * k:5 + 5 * k])
                self.assertEqual(int(0 in told[3::3]), answer[5 + 5 * k])
            self.assertEqual(piece(answer[0], text), [-4])

    def test_apart_and_together_all_cells(self):
        for text in texts():
            every = [cells_told(piece(k, text)) for k in range(pieces(text)[0])]
            for cells in every:
                self.assertEqual(cells, sorted(cells, key=by_order))
            together = sum(every, [])
            self.assertEqual(len(together), len(set(together)))
            self.assertEqual(set(together), Told(text).cells)

    def test_as_worked_out_another_way(self):
        for seed in range(150):
            text = some_drawing(seed)
            self.fallen(text, pieces_of(Told(text).cells))


class Slice(unittest.TestCase):
    def shown(self, text, *slices):
        for z, rows in enumerate(slices):
            signs = codes("".join(row + "\n" for row in rows.split()))
            self.assertEqual(slice_of(z, text), [len(signs)] + signs, z)
        for z in (len(slices), len(slices) + 1, FAR - 1, FAR):
            self.assertEqual(slice_of(z, text), [-4], z)

    def test_bytes_written_out(self):
        self.assertEqual(slice_of(0, text_of("part a 2 1 1 x", "cut 0 0 0 1 1 1")), [3, 46, 35, 10])
        self.assertEqual(slice_of(z=0, text=text_of("part a 1 2 1 x", "cut 0 0 0 1 1 1")), [4, 35, 10, 46, 10])

    def test_blocks_of_unlike_sizes(self):
        self.shown(text_of("part a 1 1 1 x"), "#")
        self.shown(text_of("part a 4 2 3 x"), *["####  ####"] * 3)
        self.shown(text_of("part a 2 4 3 y"), *["##  ##  ##  ##"] * 3)
        self.shown(text_of("part a 1 16 1 z"), "# " * 16)
        self.shown(text_of("part a 16 1 2 z"), "#" * 16, "#" * 16)
        self.shown(text_of("part a 1 1 16 z"), *["#"] * 16)

    def test_nothing_left(self):
        self.shown(text_of("part a 3 2 2 x", "cut 0 0 0 3 2 2"), "...  ...", "...  ...")

    def test_rows_from_the_back_to_the_front(self):
        self.shown(text_of("part a 3 4 2 x", "cut 0 0 0 1 1 1", "cut 2 2 1 1 2 1"),
                   "###  ###  ###  .##", "##.  ##.  ###  ###")

    def test_each_slice_is_its_own(self):
        slices = ("#..#  .##.", "....  ####", "####  ....", ".#..  ...#")
        self.shown(drawn(*slices), *slices)

    def test_cut_through_slices(self):
        self.shown(text_of("part a 2 2 4 x", "cut 0 0 1 1 1 2"), "##  ##", "##  .#", "##  .#", "##  ##")

    def test_largest_block(self):
        self.shown(text_of("part a 16 16 16 x", "cut 15 15 15 1 1 1"), *[("#" * 16 + " ") * 16] * 15,
                   "#" * 15 + ". " + ("#" * 16 + " ") * 15)

    def test_slices_tell_all_cells(self):
        for text in texts():
            told = Told(text)
            w, d, h = told.size
            cells = set()
            for z in range(h):
                answer = slice_of(z, text)
                self.assertEqual(answer[0], len(answer) - 1)
                self.assertEqual(answer[0], d * (w + 1))
                for number, row in enumerate(bytes(answer[1:]).decode().split("\n")[:d]):
                    self.assertRegex(row, "^[#.]{%d}$" % w)
                    cells.update((x, d - 1 - number, z) for x in range(w) if row[x] == "#")
            self.assertEqual(cells, told.cells)
            self.assertEqual(slice_of(h, text), [-4])

    def test_as_has_and_sizes_tell(self):
        text = text_of("part a 3 2 2 x", "cut 1 0 0 2 1 2", "cut 0 1 1 1 1 1")
        count = 0
        for z in range(2):
            rows = bytes(slice_of(z, text)[1:]).split()
            for y in range(2):
                for x in range(3):
                    self.assertEqual(has(x, y, z, text), [int(rows[1 - y][x] == ord("#"))])
                    count += rows[1 - y][x] == ord("#")
        self.assertEqual(count, sizes(text)[6])


class RefusalsOfTheTextComeFirst(unittest.TestCase):
    def test_ahead_of_none_such(self):
        for call in (piece, slice_of):
            for number in (0, 8, 9, FAR):
                self.assertEqual(call(number, [10] * 16385), [-2])
                self.assertEqual(call(number, []), [-6, 0, 3])
                self.assertEqual(call(number, text_of("part a 8 8 8 x", "cut 8 0 0 1 1 1")), [-6, 1, 4])
                self.assertEqual(call(number, text_of("part a 8 8 8 x", "cut 0 0 0 8 8 8", "cut")), [-6, 2, 1])


class WhatIsHandedIn(unittest.TestCase):
    def test_it_stays(self):
        text = text_of("part a 3 3 3 x", "cut 0 1 0 3 1 3")
        before = list(text)
        for call in (piece, slice_of):
            for number in (0, 1, 2, 3, FAR):
                call(number, text)
                self.assertEqual(text, before)


if __name__ == "__main__":
    unittest.main()
