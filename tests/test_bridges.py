import unittest

from answers import GREATEST_ASKED, NUMBERS_ABOVE_16, SQUARES, same_answer
from neverback.walks import bridges
from reckoning import all_bridges


class Bridges(unittest.TestCase):
    def counts(self, n, wanted):
        with self.subTest(n=n):
            same_answer(self, bridges(n), [0, wanted])

    def test_no_steps(self):
        # The walk that stays has no place but the first.
        self.counts(0, 1)

    def test_a_few_steps(self):
        # 0; then 0 0, 0 1, 0 3; then 0 0 0, 0 0 1, 0 0 3, 0 1 0, 0 1 1, 0 3 0, 0 3 3.
        self.counts(1, 1)
        self.counts(2, 3)
        self.counts(3, 7)

    def test_each_n_that_is_asked(self):
        for n in range(GREATEST_ASKED[SQUARES] + 1):
            self.counts(n, len(all_bridges(n)))

    def test_n_out_of_range(self):
        # An end at the first wrong answer: to go through so many walks takes very long.
        for n in NUMBERS_ABOVE_16:
            same_answer(self, bridges(n), [-2])


if __name__ == "__main__":
    unittest.main()
