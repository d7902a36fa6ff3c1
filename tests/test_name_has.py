"""What name and has answer."""

import itertools
import random
import unittest

from cutparts.parts import has, name
from tests.helper import Told, codes, some_lines, text_of

FAR = 4294967295


class Names(unittest.TestCase):
    def named(self, word, *cuts):
        self.assertEqual(name(text_of("part " + word + " 2 2 2 x", *cuts)), [len(word)] + codes(word))

    def test_one_sign(self):
        for sign in "abcdefghijklmnopqrstuvwxyz0123456789":
            self.named(sign)

    def test_twelve_signs(self):
        for word in ("abcdefghijkl", "012345678901", "0a1b2c3d4e5f", "zzzzzzzzzzzz", "000000000000"):
            self.named(word)

    def test_every_length(self):
        for size in range(1, 13):
            self.named("q7w8e9r0t1y2"[:size])
            self.named("9" * size)
            self.named("z" * size)

    def test_bytes_written_out(self):
        self.assertEqual(name(text_of("part leg 4 4 4 z")), [3, 108, 101, 103])
        self.assertEqual(name(text_of("part 07 4 4 4 z")), [2, 48, 55])

    def test_words_of_the_lines(self):
        for word in ("part", "cut", "x"):
            self.named(word)

    def test_cuts_change_no_name(self):
        self.named("leg", "cut 0 0 0 1 1 1")
        self.named("leg", "cut 0 0 0 2 2 2", "cut 0 0 0 2 2 2")

    def test_thirteen_signs_and_none(self):
        self.assertEqual(name(text_of("part abcdefghijklm 2 2 2 x")), [-6, 0, 1])
        self.assertEqual(name(text_of("part  2 2 2 x")), [-6, 0, 1])


class Has(unittest.TestCase):
    def has_just(self, cells, text, size):
        """It has these cells of all in and around the block."""
        around = itertools.product(*[range(limit + 2) for limit in size])
        self.assertEqual({spot for spot in around if has(*spot, text) == [1]}, set(cells))

    def test_answers(self):
        text = text_of("part a 3 4 5 x", "cut 1 1 1 1 1 1")
        self.assertEqual(has(0, 0, 0, text), [1])
        self.assertEqual(has(1, 1, 1, text), [0])
        self.assertEqual(has(x=2, y=3, z=4, text=text), [1])

    def test_limits(self):
        text = text_of("part a 3 4 5 x")
        for x, y, z in itertools.product((0, 2, 3, FAR), (0, 3, 4, FAR), (0, 4, 5, FAR)):
            self.assertEqual(has(x, y, z, text), [int(x < 3 and y < 4 and z < 5)], (x, y, z))

    def test_off_the_block_is_not_the_next_row(self):
        text = text_of("part a 3 4 5 x")
        for spot in ((3, 0, 0), (5, 0, 0), (0, 4, 0), (0, 7, 0), (0, 0, 5), (59, 0, 0), (0, 19, 0), (FAR, FAR, FAR)):
            self.assertEqual(has(*spot, text), [0], spot)

    def test_limits_of_the_largest_block(self):
        text = text_of("part a 16 16 16 y")
        for spot in itertools.product((0, 15, 16, 255, FAR), repeat=3):
            self.assertEqual(has(*spot, text), [int(max(spot) < 16)], spot)

    def test_limits_of_the_smallest_block(self):
        for spot in itertools.product((0, 1, FAR), repeat=3):
            self.assertEqual(has(*spot, text_of("part a 1 1 1 x")), [int(spot == (0, 0, 0))], spot)
            self.assertEqual(has(*spot, text_of("part a 1 1 1 x", "cut 0 0 0 1 1 1")), [0], spot)

    def test_edges_of_one_cut(self):
        text = text_of("part a 7 8 9 z", "cut 2 3 4 2 3 4")
        for x, y, z in itertools.product((1, 2, 3, 4), (2, 3, 5, 6), (3, 4, 7, 8)):
            gone = 2 <= x < 4 and 3 <= y < 6 and 4 <= z < 8
            self.assertEqual(has(x, y, z, text), [int(not gone)], (x, y, z))

    def test_within_several_cuts_and_beside_them(self):
        text = text_of("part a 4 1 1 x", "cut 0 0 0 2 1 1", "cut 1 0 0 2 1 1")
        self.has_just({(3, 0, 0)}, text, (4, 1, 1))
        text = text_of("part a 3 3 1 x", "cut 0 1 0 3 1 1", "cut 1 0 0 1 3 1")
        self.has_just({(0, 0, 0), (2, 0, 0), (0, 2, 0), (2, 2, 0)}, text, (3, 3, 1))

    def test_each_direction(self):
        for line, left in (("cut 1 0 0 1 2 2", 0), ("cut 0 1 0 2 1 2", 1), ("cut 0 0 1 2 2 1", 2)):
            cells = {spot for spot in itertools.product((0, 1), repeat=3) if spot[left] == 0}
            self.has_just(cells, text_of("part a 2 2 2 x", line), (2, 2, 2))

    def test_any_order_and_told_twice(self):
        cuts = ["cut 0 0 0 2 2 1", "cut 1 1 0 2 1 3", "cut 2 0 2 1 3 1"]
        cells = Told(text_of("part a 3 3 3 x", *cuts)).cells
        for order in itertools.permutations(cuts):
            self.has_just(cells, text_of("part a 3 3 3 x", *order), (3, 3, 3))
            self.has_just(cells, text_of("part a 3 3 3 x", *order, order[0]), (3, 3, 3))

    def test_nothing_left(self):
        self.has_just((), text_of("part a 3 2 4 x", "cut 0 0 0 3 2 4"), (3, 2, 4))

    def test_as_worked_out_another_way(self):
        for seed in range(60):
            text = text_of(*some_lines(seed))
            told = Told(text)
            rng = random.Random(seed)
            for _ in range(40):
                spot = tuple(rng.randrange(limit + 1) for limit in told.size)
                self.assertEqual(has(*spot, text), [int(spot in told.cells)], (seed, spot))

    def test_off_the_block_does_not_hide_a_fault(self):
        self.assertEqual(has(FAR, 0, 0, text_of("part a 3 3 3 x", "cut 3 0 0 1 1 1")), [-6, 1, 4])
        self.assertEqual(has(FAR, FAR, FAR, []), [-6, 0, 3])
        self.assertEqual(has(FAR, 0, 0, [10] * 16385), [-2])


if __name__ == "__main__":
    unittest.main()
