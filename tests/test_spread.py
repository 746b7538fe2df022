import unittest

from answers import GREATEST_ASKED, NUMBERS_ABOVE_16, SQUARES, same_answer
from neverback.walks import spread
from reckoning import spread_of


class Spread(unittest.TestCase):
    def comes_to(self, n, wanted):
        with self.subTest(n=n):
            same_answer(self, spread(n), [0, wanted])

    def test_no_steps(self):
        self.comes_to(0, 0)

    def test_a_few_steps(self):
        # 4 ends that are 1 away; then 4 that are 2 away, and 8 at a corner.
        self.comes_to(1, 4 * 1)
        self.comes_to(2, 4 * 4 + 8 * 2)

    def test_each_n_that_is_asked(self):
        for n in range(GREATEST_ASKED[SQUARES] + 1):
            self.comes_to(n, spread_of(n))

    def test_known_numbers(self):
        for n, wanted in enumerate((0, 4, 32, 164, 704, 2716, 9808, 33788)):
            self.comes_to(n, wanted)

    def test_n_out_of_range(self):
        # An end at the first wrong answer: to go through so many walks takes very long.
        for n in NUMBERS_ABOVE_16:
            same_answer(self, spread(n), [-2])


if __name__ == "__main__":
    unittest.main()
