import unittest

from answers import GREATEST_ASKED, HONEYCOMB, KINDS, KINDS_OUT_OF_RANGE, NUMBERS_ABOVE_16, SQUARES, TRIANGLES
from answers import same_answer
from neverback.walks import count
from reckoning import true_walks


class Count(unittest.TestCase):
    def counts(self, kind, n, wanted):
        with self.subTest(kind=kind, n=n):
            same_answer(self, count(kind, n), [0, wanted])

    def is_refused(self, kind, n):
        with self.subTest(kind=kind, n=n):
            same_answer(self, count(kind, n), [-2])

    def test_no_steps(self):
        for kind in KINDS:
            self.counts(kind, 0, 1)

    def test_one_step(self):
        self.counts(SQUARES, 1, 4)
        self.counts(TRIANGLES, 1, 6)
        self.counts(HONEYCOMB, 1, 3)

    def test_each_n_that_is_asked(self):
        for kind in KINDS:
            for n in range(GREATEST_ASKED[kind] + 1):
                self.counts(kind, n, len(true_walks(kind, n)))

    def test_known_numbers(self):
        known = {
            SQUARES: (1, 4, 12, 36, 100, 284, 780, 2172, 5916),
            TRIANGLES: (1, 6, 30, 138, 618, 2730, 11946),
            HONEYCOMB: (1, 3, 6, 12, 24, 48, 90, 174, 336, 648, 1218, 2328),
        }
        for kind in KINDS:
            for n, wanted in enumerate(known[kind]):
                self.counts(kind, n, wanted)

    def test_the_greatest_n_in_range(self):
        # On the honeycomb alone: the others have so many walks of 16 steps that it would take long.
        self.counts(HONEYCOMB, 16, 56268)

    def test_n_out_of_range(self):
        # The honeycomb first, and an end at the first wrong answer: to count the others' walks takes very long.
        for kind in (HONEYCOMB, SQUARES, TRIANGLES):
            for n in NUMBERS_ABOVE_16:
                same_answer(self, count(kind, n), [-2])

    def test_kinds_out_of_range(self):
        for kind in KINDS_OUT_OF_RANGE:
            for n in (0, 1, 7, 16):
                self.is_refused(kind, n)

    def test_kind_and_n_out_of_range(self):
        for kind in KINDS_OUT_OF_RANGE:
            for n in NUMBERS_ABOVE_16:
                self.is_refused(kind, n)


if __name__ == "__main__":
    unittest.main()
