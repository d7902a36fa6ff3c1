"""What bytes_of and same answer."""

import itertools
import random
import unittest

from cutparts.parts import bytes_of, has, piece, pieces, same, sizes, slice_of
from tests.helper import Told, codes, drawn, some_drawing, some_lines, text_of

SMALL_SIZES = ((4, 1, 1), (1, 4, 1), (1, 1, 4), (2, 2, 1), (2, 1, 2), (1, 2, 2), (3, 1, 1), (1, 3, 1), (1, 1, 3))


def small_texts(grain="x"):
    """Every part of the small sizes, by its size and cells."""
    found = {}
    for w, d, h in SMALL_SIZES:
        for signs in itertools.product("#.", repeat=w * d * h):
            rows = ["".join(signs[k:k + w]) for k in range(0, len(signs), w)]
            text = drawn(*[" ".join(rows[k:k + d]) for k in range(0, len(rows), d)], grain=grain)
            found[(w, d, h, frozenset(Told(text).cells))] = text
    return found


def numbers_in(coded):
    """The numbers that are written with seven bits a byte."""
    found = []
    number = shift = 0
    for code in coded:
        number += (code % 128) << shift
        shift += 7
        if code < 128:
            found.append(number)
            number = shift = 0
    assert shift == 0
    return found


def as_written(number):
    digits = []
    while number or not digits:
        digits.append(number & 127)
        number >>= 7
    return [digit | 128 for digit in digits[:-1]] + digits[-1:]


class Bytes(unittest.TestCase):
    def coded(self, text, answer):
        self.assertEqual(bytes_of(text), [len(answer)] + answer)

    def test_block_without_cuts(self):
        self.coded(text_of("part a 3 4 5 x"), [3, 4, 5, 0, 60])
        self.coded(text_of("part a 1 1 1 x"), [1, 1, 1, 0, 1])

    def test_grains(self):
        for number, grain in enumerate("xyz"):
            self.coded(text_of("part a 2 3 4 " + grain), [2, 3, 4, number, 24])

    def test_first_cell_is_none(self):
        self.coded(drawn(".##"), [3, 1, 1, 0, 0, 1, 2])
        self.coded(drawn(".."), [2, 1, 1, 0, 0, 2])
        self.coded(drawn("#.."), [3, 1, 1, 0, 1, 2])

    def test_nothing_left(self):
        self.coded(text_of("part a 1 1 1 y", "cut 0 0 0 1 1 1"), [1, 1, 1, 1, 0, 1])
        self.coded(text_of("part a 16 16 16 z", "cut 0 0 0 16 16 16"), [16, 16, 16, 2, 0, 128, 32])

    def test_runs_go_on_from_row_to_row(self):
        self.coded(drawn("#..  ..#"), [3, 2, 1, 0, 0, 2, 2, 2])
        self.coded(drawn("#.  ##", ".#  ##"), [2, 2, 2, 0, 3, 1, 2, 1, 1])

    def test_runs_in_the_order_of_z_then_y_then_x(self):
        self.coded(text_of("part a 2 3 4 x", "cut 1 0 0 1 1 1"), [2, 3, 4, 0, 1, 1, 22])
        self.coded(text_of("part a 2 3 4 x", "cut 0 1 0 1 1 1"), [2, 3, 4, 0, 2, 1, 21])
        self.coded(text_of("part a 2 3 4 x", "cut 0 0 1 1 1 1"), [2, 3, 4, 0, 6, 1, 17])

    def test_last_run(self):
        self.coded(drawn("##."), [3, 1, 1, 0, 2, 1])
        self.coded(drawn("#.#"), [3, 1, 1, 0, 1, 1, 1])

    def test_runs_of_127_and_128(self):
        self.coded(text_of("part a 16 8 1 x"), [16, 8, 1, 0, 128, 1])
        self.coded(text_of("part a 16 8 1 x", "cut 15 7 0 1 1 1"), [16, 8, 1, 0, 127, 1])
        self.coded(text_of("part a 16 8 1 x", "cut 0 0 0 1 1 1"), [16, 8, 1, 0, 0, 1, 127])
        self.coded(text_of("part a 16 8 1 x", "cut 0 0 0 16 8 1"), [16, 8, 1, 0, 0, 128, 1])
        self.coded(text_of("part a 16 9 1 x", "cut 1 8 0 15 1 1"), [16, 9, 1, 0, 129, 1, 15])

    def test_runs_of_255_256_and_4095_4096(self):
        self.coded(text_of("part a 16 16 1 x"), [16, 16, 1, 0, 128, 2])
        self.coded(text_of("part a 16 16 1 x", "cut 0 0 0 1 1 1"), [16, 16, 1, 0, 0, 1, 255, 1])
        self.coded(text_of("part a 16 16 16 y"), [16, 16, 16, 1, 128, 32])
        self.coded(text_of("part a 16 16 16 y", "cut 0 0 0 1 1 1"), [16, 16, 16, 1, 0, 1, 255, 31])
        self.coded(text_of("part a 16 16 16 y", "cut 15 15 15 1 1 1"), [16, 16, 16, 1, 255, 31, 1])

    def test_many_runs(self):
        rows = ["#.#.#.#."] * 4
        self.coded(drawn(" ".join(rows), " ".join(rows)), [8, 4, 2, 0] + [1] * 64)

    def test_name_and_cuts_change_no_byte(self):
        text = text_of("part a 4 4 4 x", "cut 0 0 0 2 2 1")
        for other in (text_of("part other 4 4 4 x", "cut 0 0 0 2 2 1"),
                      text_of("part a 4 4 4 x", "cut 0 0 0 2 2 1", "cut 1 1 0 1 1 1"),
                      text_of("part a 4 4 4 x", "cut 1 0 0 1 2 1", "cut 0 0 0 1 2 1")):
            self.assertEqual(bytes_of(other), bytes_of(text))

    def test_alike_just_of_the_same_cells_size_grain(self):
        seen = {}
        for grain in "xyz":
            for key, text in small_texts(grain).items():
                seen.setdefault(tuple(bytes_of(text)), []).append((grain, key))
        self.assertEqual([keys for keys in seen.values() if len(keys) > 1], [])
        self.assertEqual(len(seen), 3 * (6 * 16 + 3 * 8))

    def test_the_bytes_tell_the_part(self):
        for text in [text_of(*some_lines(seed)) for seed in range(60)] + [some_drawing(seed) for seed in range(100)]:
            answer = bytes_of(text)
            self.assertEqual(answer[0], len(answer) - 1)
            told = Told(text)
            self.assertEqual(answer[1:5], told.size + [told.grain])
            lengths = numbers_in(answer[5:])
            self.assertNotIn(0, lengths[1:])
            self.assertEqual(sum([as_written(length) for length in lengths], []), answer[5:])
            marks = [k % 2 == 0 for k, length in enumerate(lengths) for _ in range(length)]
            self.assertEqual(marks, [spot in told.cells for spot in told.spots()])


class Same(unittest.TestCase):
    def alike(self, answer, one, other):
        self.assertEqual(same(one, other), [answer])
        self.assertEqual(same(other, one), [answer])

    def test_one_text(self):
        text = text_of("part a 3 4 5 x", "cut 0 0 0 1 1 1")
        self.alike(1, text, text)
        self.alike(1, text, list(text))
        self.assertEqual(same(text=text, other=list(text)), [1])

    def test_name_and_grain(self):
        text = text_of("part a 3 4 5 x", "cut 0 0 0 1 1 1")
        self.alike(1, text, text_of("part other 3 4 5 x", "cut 0 0 0 1 1 1"))
        self.alike(1, text, text_of("part a 3 4 5 y", "cut 0 0 0 1 1 1"))
        self.alike(1, text, text_of("part b2 3 4 5 z", "cut 0 0 0 1 1 1"))

    def test_order_and_number_of_cuts(self):
        cuts = ["cut 0 0 0 2 2 2", "cut 1 1 1 2 2 2", "cut 2 0 0 1 1 4"]
        text = text_of("part a 4 4 4 x", *cuts)
        for order in itertools.permutations(cuts):
            self.alike(1, text, text_of("part a 4 4 4 x", *order))
            self.alike(1, text, text_of("part a 4 4 4 x", *order, *order))
            self.alike(1, text, text_of("part a 4 4 4 x", *order, "cut 1 1 1 1 1 1"))
            self.alike(0, text, text_of("part a 4 4 4 x", *order[1:]))

    def test_one_box_or_several(self):
        self.alike(1, text_of("part a 4 1 1 x", "cut 1 0 0 2 1 1"),
                   text_of("part a 4 1 1 x", "cut 2 0 0 1 1 1", "cut 1 0 0 1 1 1"))

    def test_one_cell(self):
        text = text_of("part a 3 3 3 x")
        for spot in itertools.product(range(3), repeat=3):
            self.alike(0, text, text_of("part a 3 3 3 x", "cut %d %d %d 1 1 1" % spot))
        self.alike(0, text_of("part a 1 1 1 x"), text_of("part a 1 1 1 x", "cut 0 0 0 1 1 1"))

    def test_as_many_cells_elsewhere(self):
        self.alike(0, drawn("#."), drawn(".#"))
        self.alike(0, drawn("#  ."), drawn(".  #"))
        self.alike(0, drawn("#", "."), drawn(".", "#"))

    def test_other_size_with_as_many_cells(self):
        for one, other in itertools.combinations(itertools.permutations((2, 3, 4)), 2):
            self.alike(0, text_of("part a %d %d %d x" % one), text_of("part a %d %d %d x" % other))
        self.alike(0, text_of("part a 4 1 1 x"), text_of("part a 2 2 1 x"))

    def test_other_size_with_the_same_spots(self):
        self.alike(0, text_of("part a 2 2 2 x"), text_of("part a 2 2 3 x", "cut 0 0 2 2 2 1"))
        self.alike(0, text_of("part a 2 2 2 x", "cut 0 0 0 2 2 2"), text_of("part a 2 2 3 x", "cut 0 0 0 2 2 3"))
        self.alike(0, text_of("part a 2 4 1 x", "cut 0 0 0 2 4 1"), text_of("part a 4 2 1 x", "cut 0 0 0 4 2 1"))

    def test_nothing_left(self):
        self.alike(1, text_of("part a 2 3 1 x", "cut 0 0 0 2 3 1"),
                   text_of("part a 2 3 1 y", "cut 0 0 0 1 3 1", "cut 1 0 0 1 3 1"))

    def test_every_two_small_ones(self):
        texts = small_texts()
        for (one, text), (other, second) in itertools.product(texts.items(), repeat=2):
            self.assertEqual(same(text, second), [int(one == other)], (one, other))

    def test_just_as_the_bytes_but_the_grain(self):
        for seed in range(60):
            first, *cuts = some_lines(seed)
            text = text_of(first, *cuts)
            random.Random(seed).shuffle(cuts)
            for other in (text_of(first, *cuts), text_of(first, *cuts[1:]), text_of(first[:-1] + "y", *cuts)):
                one, second = bytes_of(text), bytes_of(other)
                alike = one[1:4] == second[1:4] and one[5:] == second[5:]
                self.alike(int(alike), text, other)


class SameRefuses(unittest.TestCase):
    right = text_of("part a 3 3 3 x", "cut 0 0 0 1 1 1")
    # A text of each reason, its line and why.
    wrong = (
        (codes("part a 3 3 3 x"), 0, 1),
        (text_of("part a 3 3 3 x", "cut 0 0 0 1 1 1", "cut"), 2, 1),
        (text_of("part a 3 3 3 x", *["cut 0 0 0 1 1 1"] * 65), 65, 2),
        ([], 0, 3),
        (text_of("part a 3 3 3 x", "part a 3 3 3 x"), 1, 3),
        (text_of("part a 3 3 3 x", "cut 3 0 0 1 1 1"), 1, 4),
        ([10] * 16384, 0, 1),
    )
    too_long = [10] * 16385

    def test_fault_in_the_first(self):
        for text, line, why in self.wrong:
            self.assertEqual(same(text, self.right), [-6, line, why])

    def test_fault_in_the_second(self):
        for text, line, why in self.wrong:
            self.assertEqual(same(self.right, text), [-6, line, why + 16])

    def test_fault_in_both(self):
        for (text, line, why), (other, second, reason) in itertools.product(self.wrong, repeat=2):
            self.assertEqual(same(text, other), [-6, line, why, second, reason + 16])

    def test_one_too_long(self):
        for text in [self.right, self.too_long] + [text for text, line, why in self.wrong]:
            self.assertEqual(same(self.too_long, text), [-2])
            self.assertEqual(same(text, self.too_long), [-2])

    def test_what_is_handed_in_stays(self):
        texts = [self.right, self.too_long, text_of("part b 3 3 3 y")] + [text for text, line, why in self.wrong]
        for text, other in itertools.product(texts, repeat=2):
            before = (list(text), list(other))
            same(text, other)
            self.assertEqual((text, other), before)


class OnePart(unittest.TestCase):
    """All calls speak of the same cells."""

    def test_calls_agree(self):
        for seed in range(40):
            text = some_drawing(seed)
            w, d, h, _, _, count = sizes(text)[1:]
            had = {(x, y, z) for z in range(h) for y in range(d) for x in range(w) if has(x, y, z, text) == [1]}
            self.assertEqual(len(had), count)
            fallen = [piece(k, text) for k in range(pieces(text)[0])]
            self.assertEqual({tuple(one[k:k + 3]) for one in fallen for k in range(1, len(one), 3)}, had)
            self.assertEqual(sum(slice_of(z, text)[1:].count(ord("#")) for z in range(h)), count)
            self.assertEqual(sum(numbers_in(bytes_of(text)[5:])[::2]), count)


if __name__ == "__main__":
    unittest.main()
