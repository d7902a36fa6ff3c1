"""What holds of every call, whatever it tells."""

import inspect
import random
import unittest

from cutparts import parts
from tests.helper import CALLS, codes, some_lines, text_of

TEXTS = (
    text_of("part a 3 3 3 x", "cut 0 0 0 1 1 1"),
    text_of("part a 3 3 3 x", "cut 0 0 0 3 3 3"),
    text_of("part a 3 3 3 x", "cut 3 0 0 1 1 1"),
    codes("part a 3 3 3 x"),
    [],
    [10] * 16384,
    [10] * 16385,
)


INTERFACE = {
    "judge": ["text"],
    "sizes": ["text"],
    "name": ["text"],
    "has": ["x", "y", "z", "text"],
    "faces": ["text"],
    "pieces": ["text"],
    "piece": ["k", "text"],
    "slice_of": ["z", "text"],
    "bytes_of": ["text"],
    "same": ["text", "other"],
}


class Interface(unittest.TestCase):
    def test_names_and_arguments(self):
        for word, arguments in INTERFACE.items():
            self.assertEqual(list(inspect.signature(getattr(parts, word)).parameters), arguments, word)


class EveryCall(unittest.TestCase):
    def each(self):
        for text in TEXTS:
            for word, call in CALLS.items():
                yield word, call, text

    def test_what_is_handed_in_stays(self):
        for word, call, text in self.each():
            before = list(text)
            answer = call(text)
            self.assertEqual(text, before, word)
            answer.append(99)
            self.assertEqual(text, before, word)

    def test_a_second_call_answers_as_the_first(self):
        for word, call, text in self.each():
            first = call(text)
            kept = list(first)
            first.append(99)
            call(text_of("part other 9 9 9 z", "cut 0 0 0 9 9 9"))
            self.assertEqual(call(text), kept, word)

    def test_kinds(self):
        for word, call, text in self.each():
            answer = call(text)
            self.assertIs(type(answer), list, word)
            self.assertEqual({type(number) for number in answer}, {int}, word)

    def test_a_right_text_is_not_refused(self):
        for word, call in CALLS.items():
            for seed in range(20):
                self.assertNotIn(call(text_of(*some_lines(seed)))[0], (-2, -6), word)


class CutsToldOtherwise(unittest.TestCase):
    def test_order_and_repetition(self):
        for seed in range(30):
            first, *cuts = some_lines(seed)
            other = cuts + cuts
            random.Random(seed).shuffle(other)
            for word, call in CALLS.items():
                if word != "sizes":
                    self.assertEqual(call(text_of(first, *other)), call(text_of(first, *cuts)), (word, seed))

    def test_one_within_others(self):
        apart = ["part a 6 5 4 y", "cut 1 0 0 2 5 4", "cut 3 0 0 2 3 2"]
        for inner in ("cut 1 0 0 4 3 2", "cut 2 1 1 2 1 1", "cut 3 2 1 1 1 1"):
            for word, call in CALLS.items():
                if word != "sizes":
                    self.assertEqual(call(text_of(*apart, inner)), call(text_of(*apart)), (word, inner))


if __name__ == "__main__":
    unittest.main()
