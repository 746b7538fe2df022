import unittest

from answers import GREATEST_ASKED, HONEYCOMB, KINDS, KINDS_OUT_OF_RANGE, NUMBERS_ABOVE_16, SQUARES, TRIANGLES
from answers import same_answer
from neverback.walks import rings
from reckoning import all_rings


class Rings(unittest.TestCase):
    def counts(self, kind, n, wanted):
        with self.subTest(kind=kind, n=n):
            same_answer(self, rings(kind, n), [0, wanted])

    def is_refused(self, kind, n):
        with self.subTest(kind=kind, n=n):
            same_answer(self, rings(kind, n), [-2])

    def test_the_shortest_rings(self):
        # Each way round counts, and each ring that 0, 0 lies on: two ways round 4 squares, 6 triangles, 3 hexagons.
        self.counts(SQUARES, 4, 8)
        self.counts(TRIANGLES, 3, 12)
        self.counts(HONEYCOMB, 6, 6)

    def test_each_n_that_is_asked(self):
        for kind in KINDS:
            for n in range(3, GREATEST_ASKED[kind] + 1):
                self.counts(kind, n, len(all_rings(kind, n)))

    def test_no_ring(self):
        for n in (3, 5, 7):
            self.counts(SQUARES, n, 0)
        for n in (3, 4, 5, 7, 8, 9):
            self.counts(HONEYCOMB, n, 0)

    def test_known_numbers(self):
        known = {
            SQUARES: {4: 8, 6: 24, 8: 112},
            TRIANGLES: {3: 12, 4: 24, 5: 60, 6: 180},
            HONEYCOMB: {6: 6, 10: 30, 12: 24, 14: 168},
        }
        for kind in KINDS:
            for n, wanted in known[kind].items():
                self.counts(kind, n, wanted)

    def test_the_greatest_n_in_range(self):
        # On the honeycomb alone: the others have so many walks of 15 steps that it would take long.
        self.counts(HONEYCOMB, 16, 288)

    def test_n_below_its_range(self):
        for kind in KINDS:
            for n in (0, 1, 2):
                self.is_refused(kind, n)

    def test_n_above_its_range(self):
        # The honeycomb first, and an end at the first wrong answer: to go through the others' walks takes very long.
        for kind in (HONEYCOMB, SQUARES, TRIANGLES):
            for n in NUMBERS_ABOVE_16:
                same_answer(self, rings(kind, n), [-2])

    def test_kinds_out_of_range(self):
        for kind in KINDS_OUT_OF_RANGE:
            for n in (3, 6, 16):
                self.is_refused(kind, n)

    def test_kind_and_n_out_of_range(self):
        for kind in KINDS_OUT_OF_RANGE:
            for n in (0, 1, 2) + NUMBERS_ABOVE_16:
                self.is_refused(kind, n)


if __name__ == "__main__":
    unittest.main()
