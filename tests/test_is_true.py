import itertools
import unittest

from answers import HONEYCOMB, HOW_MANY_STEPS, KINDS, SQUARES, TRIANGLES, same_answer
from neverback.walks import is_true


class IsTrue(unittest.TestCase):
    def is_one(self, kind, steps):
        with self.subTest(kind=kind, steps=steps):
            same_answer(self, is_true(kind, steps), [1])

    def is_zero(self, kind, steps):
        with self.subTest(kind=kind, steps=steps):
            same_answer(self, is_true(kind, steps), [0])

    def test_no_steps(self):
        for kind in KINDS:
            self.is_one(kind, [])

    def test_each_step_alone(self):
        for kind in KINDS:
            for step in range(HOW_MANY_STEPS[kind]):
                self.is_one(kind, [step])

    def test_squares(self):
        self.is_one(SQUARES, [0, 0, 1, 2, 1, 2])
        self.is_one(SQUARES, [3, 3, 2, 1, 2])
        self.is_one(SQUARES, [0, 1, 2])
        self.is_one(SQUARES, [1, 0, 0, 3, 3, 2, 2])

    def test_squares_twice_at_a_place(self):
        self.is_zero(SQUARES, [0, 2])
        self.is_zero(SQUARES, [1, 3])
        self.is_zero(SQUARES, [0, 0, 2])
        self.is_zero(SQUARES, [0, 0, 1, 2, 3])
        self.is_zero(SQUARES, [0, 2, 3, 3])

    def test_triangles(self):
        self.is_one(TRIANGLES, [0, 2])
        self.is_one(TRIANGLES, [0, 1, 2, 3, 4])
        self.is_one(TRIANGLES, [5, 5, 0, 1, 2])

    def test_triangles_twice_at_a_place(self):
        self.is_zero(TRIANGLES, [0, 3])
        self.is_zero(TRIANGLES, [1, 4])
        self.is_zero(TRIANGLES, [2, 5])
        self.is_zero(TRIANGLES, [1, 0, 2, 4])
        self.is_zero(TRIANGLES, [0, 3, 1, 1])

    def test_honeycomb(self):
        self.is_one(HONEYCOMB, [2, 0, 0, 2, 1])
        self.is_one(HONEYCOMB, [0, 2, 0, 2, 0, 2])
        self.is_one(HONEYCOMB, [1, 2, 1, 2, 1, 2])

    def test_honeycomb_twice_at_a_place(self):
        self.is_zero(HONEYCOMB, [0, 1])
        self.is_zero(HONEYCOMB, [2, 2])
        self.is_zero(HONEYCOMB, [0, 2, 2])
        self.is_zero(HONEYCOMB, [1, 2, 2])
        self.is_zero(HONEYCOMB, [1, 2, 1, 2, 2, 1])
        self.is_zero(HONEYCOMB, [0, 2, 0, 0, 2, 1, 1])

    def test_back_at_the_first_place(self):
        rings = (
            (SQUARES, [0, 1, 2, 3]),
            (SQUARES, [3, 3, 2, 1, 1, 0]),
            (TRIANGLES, [0, 2, 4]),
            (TRIANGLES, [5, 1, 3]),
            (TRIANGLES, [0, 1, 2, 3, 4, 5]),
            (HONEYCOMB, [2, 0, 0, 2, 1, 1]),
            (HONEYCOMB, [1, 2, 0, 0, 2, 1]),
        )
        for kind, steps in rings:
            self.is_zero(kind, steps)
            self.is_one(kind, steps[:-1])

    def test_200_steps(self):
        for kind in KINDS:
            self.is_one(kind, [0] * 200)
        self.is_one(SQUARES, [3] * 200)
        self.is_one(SQUARES, [1, 2] * 100)
        self.is_one(TRIANGLES, [5] * 200)
        self.is_one(HONEYCOMB, [1, 2] * 100)

    def test_200_steps_that_fail_at_the_last_alone(self):
        walks = (
            (SQUARES, [0] * 199 + [2]),
            (SQUARES, [0] * 50 + [1] * 50 + [2] * 50 + [3] * 50),
            (TRIANGLES, [5] * 199 + [2]),
            (TRIANGLES, [1] * 50 + [3] * 50 + [4] * 50 + [0] * 50),
            (HONEYCOMB, [0] * 199 + [1]),
        )
        for kind, steps in walks:
            self.assertEqual(len(steps), 200)
            self.is_zero(kind, steps)
            self.is_one(kind, steps[:-1])

    def test_a_long_ring_of_the_honeycomb(self):
        # One row there, the row beside it back.
        ring = [2] + [0] * 98 + [2] + [1] * 98
        self.is_zero(HONEYCOMB, ring)
        self.is_one(HONEYCOMB, ring[:-1])

    def test_200_steps_that_fail_at_the_first_alone(self):
        self.is_zero(SQUARES, [0, 2] + [3] * 198)
        self.is_zero(TRIANGLES, [0, 3] + [4] * 198)
        self.is_zero(HONEYCOMB, [2, 2] + [1] * 198)

    def test_4096_steps(self):
        for kind in KINDS:
            self.is_one(kind, [0] * 4096)

    def test_how_many_walks_are_true(self):
        # Known numbers of such walks, from 0 steps on.
        known = {
            SQUARES: (1, 4, 12, 36, 100, 284, 780),
            TRIANGLES: (1, 6, 30, 138, 618, 2730),
            HONEYCOMB: (1, 3, 6, 12, 24, 48, 90, 174, 336),
        }
        for kind in KINDS:
            for n, wanted in enumerate(known[kind]):
                with self.subTest(kind=kind, n=n):
                    walks = itertools.product(range(HOW_MANY_STEPS[kind]), repeat=n)
                    self.assertEqual(sum(is_true(kind, list(steps))[0] for steps in walks), wanted)


if __name__ == "__main__":
    unittest.main()
