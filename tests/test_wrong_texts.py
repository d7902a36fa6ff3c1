"""Texts that every call refuses: which line is told, and why."""

import random
import unittest

from cutparts.parts import judge, same, sizes
from tests.helper import CALLS, codes, expected, some_lines, text_of

PART = "part a 8 8 8 x"
CUT = "cut 1 1 1 2 2 2"


class Refused(unittest.TestCase):
    def refused(self, text, answer):
        for word, call in CALLS.items():
            self.assertEqual(call(text), answer, word)
        second = answer if answer == [-2] else [-6, answer[1], answer[2] + 16]
        self.assertEqual(same(text_of(PART), text), second)

    def fault(self, lines, number, why):
        self.refused(text_of(*lines), [-6, number, why])

    def not_formed_first(self, line):
        self.fault([line], 0, 1)
        self.fault([line, CUT], 0, 1)

    def not_formed_later(self, line):
        self.fault([PART, line], 1, 1)
        self.fault([PART, CUT, CUT, line, CUT], 3, 1)


class TooLong(Refused):
    def test_at_the_bound_and_above(self):
        start, end = "part a 8 8 8 x\ncut 1", " 0 0 1 1 1\n"
        for size, answer in ((16384, [-6, 1, 4]), (16385, [-2]), (17000, [-2])):
            text = codes(start + "0" * (size - len(start) - len(end)) + end)
            self.assertEqual(len(text), size)
            self.refused(text, answer)

    def test_too_long_comes_before_the_fault(self):
        self.refused([10] * 16384, [-6, 0, 1])
        self.refused([10] * 16385, [-2])
        self.refused(codes("a" * 16384), [-6, 0, 1])
        self.refused(codes("a" * 16385), [-2])

    def test_right_lines_do_not_help(self):
        line = codes(CUT + "\n")
        self.refused((codes(PART + "\n") + line * 1100)[:16384], [-6, 65, 2])
        self.refused((codes(PART + "\n") + line * 1100)[:16385], [-2])


class NotFormed(Refused):
    def test_names(self):
        for name in ("abcdefghijklm", "a" * 1000, "", "A", "aB", "a_b", "a-b", "\xe4", "a.", "`", "{", "/", ":"):
            self.not_formed_first("part " + name + " 8 8 8 x")

    def test_no_name(self):
        self.not_formed_first("part 8 8 8 x")

    def test_sizes_of_the_block(self):
        for size in ("0", "17", "100", "00", "01", "08", "-1", "+1", "1.", "a", "1a", "a1", "", "9" * 5000, "1" + "0" * 9999):
            self.not_formed_first("part a " + size + " 8 8 x")
            self.not_formed_first("part a 8 " + size + " 8 x")
            self.not_formed_first("part a 8 8 " + size + " x")

    def test_sizes_of_a_cut(self):
        for size in ("0", "17", "100", "00", "01", "-1", "+1", "a", "1a", "", "9" * 5000, "1" + "0" * 9999):
            self.not_formed_later("cut 0 0 0 " + size + " 1 1")
            self.not_formed_later("cut 0 0 0 1 " + size + " 1")
            self.not_formed_later("cut 0 0 0 1 1 " + size)

    def test_corners_of_a_cut(self):
        for number in ("00", "01", "0" * 5000, "-1", "+1", "-0", "a", "1a", "", "1_0", "0x1", "\xb2", "/", ":"):
            self.not_formed_later("cut " + number + " 0 0 1 1 1")
            self.not_formed_later("cut 0 " + number + " 0 1 1 1")
            self.not_formed_later("cut 0 0 " + number + " 1 1 1")

    def test_grains(self):
        for grain in ("w", "X", "xy", "xx", "0", "1", "", "{"):
            self.not_formed_first("part a 8 8 8 " + grain)

    def test_words(self):
        for word in ("Part", "PART", "parts", "par", "", "block", "cut"):
            self.not_formed_first(word + " a 8 8 8 x")
        for word in ("Cut", "CUT", "cuts", "cu", "", "hole", "part"):
            self.not_formed_later(word + " 0 0 0 1 1 1")

    def test_too_few_or_many_in_a_line(self):
        for line in ("part", "part a", "part a 8 8 x", "part a 8 8 8", "part a 8 8 8 x x", "part a 8 8 8 8 x"):
            self.not_formed_first(line)
        for line in ("cut", "cut 0 0 0 1 1", "cut 0 0 0 1 1 1 1", "cut 0 0 0"):
            self.not_formed_later(line)

    def test_empty_lines(self):
        self.not_formed_first("")
        self.not_formed_later("")
        self.fault([PART, ""], 1, 1)
        self.fault(["", PART], 0, 1)
        self.fault([PART, CUT, "", CUT], 2, 1)

    def test_blanks(self):
        for line in (" ", "  ", " " + PART, PART + " ", PART.replace("t a", "t  a"), PART.replace("8 x", "8  x")):
            self.not_formed_first(line)
        for line in (" ", " " + CUT, CUT + " ", CUT.replace("t 1", "t  1"), CUT.replace("1 2", "1  2")):
            self.not_formed_later(line)

    def test_other_white_signs(self):
        for sign in ("\t", "\r", "\x00", "\x0b", "\xa0"):
            self.not_formed_first(PART.replace(" ", sign))
            self.not_formed_first(PART + sign)
            self.not_formed_later(CUT + sign)

    def test_last_line_without_its_line_feed(self):
        self.refused(codes(PART), [-6, 0, 1])
        self.refused(codes(PART + "\n" + CUT), [-6, 1, 1])
        self.refused(codes(PART + "\n" + CUT + "\n" + CUT), [-6, 2, 1])
        self.refused(codes(PART + "\n" + "x"), [-6, 1, 1])
        self.refused(codes(PART + "\n" + " "), [-6, 1, 1])

    def test_every_single_byte(self):
        for code in range(256):
            self.refused([code], [-6, 0, 1])

    def test_every_byte_as_a_name(self):
        for code in range(256):
            text = codes("part ") + [code] + codes(" 8 8 8 x\n")
            right = code in b"abcdefghijklmnopqrstuvwxyz0123456789"
            self.assertEqual(judge(text), [0] if right else [-6, 0, 1], code)


class CannotStand(Refused):
    def test_no_lines(self):
        self.refused([], [-6, 0, 3])

    def test_cut_first(self):
        self.fault([CUT], 0, 3)
        self.fault([CUT, PART], 0, 3)

    def test_part_behind_the_first(self):
        self.fault([PART, PART], 1, 3)
        self.fault([PART, CUT, "part b 1 1 1 z"], 2, 3)
        self.fault([PART, CUT, "part b 1 1 1 z", CUT], 2, 3)


class BeyondTheBlock(Refused):
    def test_by_one(self):
        for cut in ("3 0 0 1 1 1", "0 4 0 1 1 1", "0 0 5 1 1 1", "2 0 0 2 1 1", "0 3 0 1 2 1", "0 0 4 1 1 2",
                    "0 0 0 4 1 1", "0 0 0 1 5 1", "0 0 0 1 1 6", "1 0 0 3 4 5", "0 1 0 3 4 5", "0 0 1 3 4 5"):
            self.fault(["part a 3 4 5 x", "cut " + cut], 1, 4)

    def test_largest_block(self):
        for cut in ("16 0 0 1 1 1", "0 16 0 1 1 1", "0 0 16 1 1 1", "15 0 0 2 1 1", "1 0 0 16 16 16"):
            self.fault(["part a 16 16 16 x", "cut " + cut], 1, 4)

    def test_large_numbers(self):
        for number in ("17", "100", "170", "4294967295", "4294967296", "18446744073709551616", "9" * 5000, "1" + "0" * 9999):
            self.fault([PART, "cut " + number + " 0 0 1 1 1"], 1, 4)
            self.fault([PART, "cut 0 " + number + " 0 1 1 1"], 1, 4)
            self.fault([PART, CUT, "cut 0 0 " + number + " 1 1 1"], 2, 4)


class TooManyCuts(Refused):
    def test_the_sixty_fifth(self):
        self.fault([PART] + [CUT] * 65, 65, 2)
        self.fault([PART] + [CUT] * 66, 65, 2)
        self.fault([PART] + [CUT] * 700, 65, 2)


class SeveralReasons(Refused):
    def test_not_formed_before_cannot_stand(self):
        self.fault(["cut 0 0 0 0 1 1"], 0, 1)
        self.fault([PART, "part b 0 1 1 x"], 1, 1)
        self.refused(codes(CUT), [-6, 0, 1])
        self.refused(codes(PART + "\n" + PART), [-6, 1, 1])

    def test_not_formed_before_beyond(self):
        self.fault([PART, "cut 9 0 0 17 1 1"], 1, 1)
        self.fault([PART, "cut 99 0 0 1 1 01"], 1, 1)
        self.refused(codes(PART + "\ncut 9 0 0 1 1 1"), [-6, 1, 1])

    def test_not_formed_before_too_many(self):
        self.fault([PART] + [CUT] * 64 + ["cut 0 0 0 0 1 1"], 65, 1)
        self.fault([PART] + [CUT] * 64 + [""], 65, 1)
        self.refused(text_of(PART, *[CUT] * 64) + codes(CUT), [-6, 65, 1])
        self.refused(text_of(PART, *[CUT] * 64) + codes("cut 9 0 0 1 1 1"), [-6, 65, 1])

    def test_cannot_stand_before_beyond(self):
        self.fault(["cut 16 16 16 16 16 16"], 0, 3)
        self.fault(["cut 4294967296 0 0 1 1 1"], 0, 3)

    def test_part_behind_sixty_four_cuts(self):
        self.fault([PART] + [CUT] * 64 + [PART], 65, 3)

    def test_beyond_before_too_many(self):
        self.fault([PART] + [CUT] * 64 + ["cut 8 0 0 1 1 1"], 65, 4)

    def test_first_wrong_line_is_told(self):
        self.fault([PART, "cut 8 0 0 1 1 1", "", PART], 1, 4)
        self.fault([PART, PART, "cut 8 0 0 1 1 1", ""], 1, 3)
        self.fault([PART, CUT, "", "cut 8 0 0 1 1 1", PART], 2, 1)
        self.fault([CUT, ""], 0, 3)
        self.fault(["part a 0 8 8 x", CUT, PART], 0, 1)
        self.fault([PART] + [CUT] * 65 + [""], 65, 2)
        self.refused(codes(PART + "\n" + PART + "\n" + CUT), [-6, 1, 3])
        self.refused(codes(PART + "\ncut 8 0 0 1 1 1\n" + CUT), [-6, 1, 4])


class ManyTexts(Refused):
    def test_one_byte_changed_put_in_or_taken_out(self):
        signs = codes("0123456789 \nabcpartuxyz/:`{~\t") + [0, 255]
        for seed in range(40):
            rng = random.Random(seed)
            text = text_of(*some_lines(seed)[:4])
            for _ in range(40):
                at = rng.randrange(len(text))
                put = rng.choice(([], [rng.choice(signs)], [rng.choice(signs), text[at]]))
                other = text[:at] + put + text[at + 1:]
                self.assertEqual((judge(other), sizes(other)), expected(other), other)

    def test_every_beginning_of_a_text(self):
        text = text_of(PART, CUT, "cut 7 7 7 1 1 1", "cut 7 7 7 1 1 2", CUT)
        for size in range(len(text) + 1):
            self.assertEqual((judge(text[:size]), sizes(text[:size])), expected(text[:size]), size)


if __name__ == "__main__":
    unittest.main()
