"""Texts that tell a part: what judge and sizes answer of them."""

import itertools
import random
import unittest

from cutparts.parts import judge, sizes
from tests.helper import expected, some_lines, text_of


class RightTexts(unittest.TestCase):
    def told(self, lines, answer):
        self.assertEqual(judge(text_of(*lines)), [0])
        self.assertEqual(sizes(text_of(*lines)), answer)

    def test_no_cuts(self):
        self.told(["part leg 2 3 4 x"], [0, 2, 3, 4, 0, 0, 24])

    def test_bytes_written_out(self):
        text = [112, 97, 114, 116, 32, 97, 32, 50, 32, 49, 32, 49, 32, 122, 10,
                99, 117, 116, 32, 48, 32, 48, 32, 48, 32, 49, 32, 49, 32, 49, 10]
        self.assertEqual(judge(text), [0])
        self.assertEqual(sizes(text), [0, 2, 1, 1, 2, 1, 1])

    def test_grains(self):
        self.told(["part a 5 6 7 x"], [0, 5, 6, 7, 0, 0, 210])
        self.told(["part a 5 6 7 y"], [0, 5, 6, 7, 1, 0, 210])
        self.told(["part a 5 6 7 z"], [0, 5, 6, 7, 2, 0, 210])

    def test_one_cut(self):
        self.told(["part a 4 5 6 y", "cut 1 2 3 1 2 3"], [0, 4, 5, 6, 1, 1, 114])

    def test_several_cuts_apart(self):
        lines = ["part a 10 10 10 z", "cut 0 0 0 2 3 4", "cut 5 5 5 5 5 5", "cut 9 0 0 1 1 1"]
        self.told(lines, [0, 10, 10, 10, 2, 3, 1000 - 24 - 125 - 1])

    def test_cuts_that_overlap(self):
        lines = ["part a 4 4 4 x", "cut 0 0 0 2 2 2", "cut 1 1 1 2 2 2"]
        self.told(lines, [0, 4, 4, 4, 0, 2, 64 - 15])

    def test_cut_told_twice(self):
        lines = ["part a 4 4 4 x", "cut 1 0 2 3 2 1", "cut 1 0 2 3 2 1"]
        self.told(lines, [0, 4, 4, 4, 0, 2, 58])

    def test_cut_within_another_cuts_nothing_more(self):
        lines = ["part a 4 4 4 x", "cut 0 0 0 3 3 3", "cut 1 1 1 1 1 2"]
        self.told(lines, [0, 4, 4, 4, 0, 2, 37])

    def test_cut_within_others_together(self):
        lines = ["part a 4 1 1 x", "cut 0 0 0 2 1 1", "cut 2 0 0 1 1 1", "cut 1 0 0 2 1 1"]
        self.told(lines, [0, 4, 1, 1, 0, 3, 1])

    def test_any_order(self):
        cuts = ["cut 0 0 0 3 3 1", "cut 2 2 0 3 1 4", "cut 1 0 0 1 5 2", "cut 4 4 4 1 1 1"]
        for order in itertools.permutations(cuts):
            self.told(["part a 5 5 5 x"] + list(order), [0, 5, 5, 5, 0, 4, 125 - 9 - 12 + 1 - 10 + 3 - 1])

    def test_smallest_block(self):
        self.told(["part a 1 1 1 x"], [0, 1, 1, 1, 0, 0, 1])
        self.told(["part a 1 1 1 x", "cut 0 0 0 1 1 1"], [0, 1, 1, 1, 0, 1, 0])

    def test_largest_block(self):
        self.told(["part a 16 16 16 z"], [0, 16, 16, 16, 2, 0, 4096])
        self.told(["part a 16 16 16 z", "cut 15 15 15 1 1 1"], [0, 16, 16, 16, 2, 1, 4095])
        self.told(["part a 16 16 16 z", "cut 0 0 0 16 16 16"], [0, 16, 16, 16, 2, 1, 0])

    def test_each_direction_has_its_own_size(self):
        self.told(["part a 16 2 1 x", "cut 14 0 0 2 1 1"], [0, 16, 2, 1, 0, 1, 30])
        self.told(["part a 1 16 2 x", "cut 0 14 0 1 2 1"], [0, 1, 16, 2, 0, 1, 30])
        self.told(["part a 2 1 16 x", "cut 0 0 14 1 1 2"], [0, 2, 1, 16, 0, 1, 30])

    def test_cut_that_ends_at_the_edge(self):
        self.told(["part a 3 4 5 x", "cut 2 3 4 1 1 1"], [0, 3, 4, 5, 0, 1, 59])
        self.told(["part a 3 4 5 x", "cut 0 0 0 3 4 5"], [0, 3, 4, 5, 0, 1, 0])

    def test_sixty_four_cuts(self):
        cuts = ["cut %d %d %d 1 1 1" % (k % 4, k // 4 % 4, k // 16) for k in range(64)]
        self.told(["part a 5 4 4 x"] + cuts, [0, 5, 4, 4, 0, 64, 16])
        self.told(["part a 5 4 4 x"] + cuts[:63], [0, 5, 4, 4, 0, 63, 17])

    def test_sixty_four_cuts_of_a_whole_largest_block(self):
        lines = ["part a 16 16 16 y"] + ["cut 0 0 0 16 16 16"] * 64
        self.told(lines, [0, 16, 16, 16, 1, 64, 0])

    def test_names(self):
        for name in ("a", "z", "0", "9", "007", "part", "cut", "x", "abcdefghijkl", "012345678901"):
            self.told(["part " + name + " 1 2 3 x"], [0, 1, 2, 3, 0, 0, 6])

    def test_every_size(self):
        for size in range(1, 17):
            self.told(["part a %d 1 1 x" % size], [0, size, 1, 1, 0, 0, size])
            self.told(["part a 1 %d 1 x" % size], [0, 1, size, 1, 0, 0, size])
            self.told(["part a 1 1 %d x" % size], [0, 1, 1, size, 0, 0, size])
            cut = "cut %d 0 0 %d 1 1" % (16 - size, size)
            self.told(["part a 16 1 1 x", cut], [0, 16, 1, 1, 0, 1, 16 - size])


class ManyTexts(unittest.TestCase):
    def test_as_worked_out_another_way(self):
        for seed in range(60):
            text = text_of(*some_lines(seed))
            self.assertEqual((judge(text), sizes(text)), expected(text), seed)

    def test_order_and_repetition_change_no_count_of_cells(self):
        for seed in range(60):
            lines = some_lines(seed)
            before = sizes(text_of(*lines))
            cuts = lines[1:] + lines[1:]
            random.Random(seed).shuffle(cuts)
            after = sizes(text_of(lines[0], *cuts))
            self.assertEqual(after[:5] + after[6:], before[:5] + before[6:], seed)
            self.assertEqual(after[5], 2 * before[5], seed)


if __name__ == "__main__":
    unittest.main()
