import itertools
import unittest

from answers import HONEYCOMB, HOW_MANY_STEPS, KINDS, SQUARES, TRIANGLES, same_answer
from neverback.walks import end


class End(unittest.TestCase):
    def ends_at(self, kind, steps, x, y):
        with self.subTest(kind=kind, steps=steps):
            same_answer(self, end(kind, steps), [0, x, y])

    def test_no_steps(self):
        for kind in KINDS:
            self.ends_at(kind, [], 0, 0)

    def test_each_step_of_squares(self):
        self.ends_at(SQUARES, [0], 1, 0)
        self.ends_at(SQUARES, [1], 0, 1)
        self.ends_at(SQUARES, [2], -1, 0)
        self.ends_at(SQUARES, [3], 0, -1)

    def test_each_step_of_triangles(self):
        self.ends_at(TRIANGLES, [0], 1, 0)
        self.ends_at(TRIANGLES, [1], 0, 1)
        self.ends_at(TRIANGLES, [2], -1, 1)
        self.ends_at(TRIANGLES, [3], -1, 0)
        self.ends_at(TRIANGLES, [4], 0, -1)
        self.ends_at(TRIANGLES, [5], 1, -1)

    def test_each_step_of_the_honeycomb(self):
        self.ends_at(HONEYCOMB, [0], 1, 0)
        self.ends_at(HONEYCOMB, [1], -1, 0)
        self.ends_at(HONEYCOMB, [2], 0, 1)

    def test_honeycomb_step_2_where_x_plus_y_is_even(self):
        self.ends_at(HONEYCOMB, [0, 0, 2], 2, 1)
        self.ends_at(HONEYCOMB, [1, 1, 2], -2, 1)
        self.ends_at(HONEYCOMB, [2, 0, 2], 1, 2)
        self.ends_at(HONEYCOMB, [2, 1, 2], -1, 2)
        self.ends_at(HONEYCOMB, [0, 2, 2], 1, 0)
        self.ends_at(HONEYCOMB, [1, 2, 2], -1, 0)

    def test_honeycomb_step_2_where_x_plus_y_is_odd(self):
        self.ends_at(HONEYCOMB, [0, 2], 1, -1)
        self.ends_at(HONEYCOMB, [1, 2], -1, -1)
        self.ends_at(HONEYCOMB, [1, 1, 1, 2], -3, -1)
        self.ends_at(HONEYCOMB, [2, 2], 0, 0)
        self.ends_at(HONEYCOMB, [1, 2, 1, 2], -2, -2)
        self.ends_at(HONEYCOMB, [0, 2, 0, 2], 2, -2)

    def test_walks(self):
        self.ends_at(SQUARES, [0, 0, 1, 2, 1, 2, 2], -1, 2)
        self.ends_at(TRIANGLES, [0, 2, 2, 4, 5, 5], 1, -1)
        self.ends_at(HONEYCOMB, [2, 0, 2, 0, 0, 2, 1], 2, 1)

    def test_walks_that_are_not_true_end_too(self):
        self.ends_at(SQUARES, [0, 2], 0, 0)
        self.ends_at(SQUARES, [0, 2, 3, 3], 0, -2)
        self.ends_at(SQUARES, [0, 1, 2, 3], 0, 0)
        self.ends_at(TRIANGLES, [0, 3, 5], 1, -1)
        self.ends_at(TRIANGLES, [0, 2, 4], 0, 0)
        self.ends_at(HONEYCOMB, [0, 1, 1], -1, 0)
        self.ends_at(HONEYCOMB, [2, 0, 0, 2, 1, 1], 0, 0)

    def test_200_steps(self):
        self.ends_at(SQUARES, [0] * 200, 200, 0)
        self.ends_at(SQUARES, [3] * 200, 0, -200)
        self.ends_at(SQUARES, [1, 2] * 100, -100, 100)
        self.ends_at(TRIANGLES, [0] * 200, 200, 0)
        self.ends_at(TRIANGLES, [5] * 200, 200, -200)
        self.ends_at(TRIANGLES, [2] * 200, -200, 200)
        self.ends_at(HONEYCOMB, [0] * 200, 200, 0)
        self.ends_at(HONEYCOMB, [2, 1] * 100, -100, 100)
        self.ends_at(HONEYCOMB, [1, 2] * 100, -100, -100)
        self.ends_at(HONEYCOMB, [2] * 200, 0, 0)

    def test_4096_steps(self):
        for kind in KINDS:
            self.ends_at(kind, [0] * 4096, 4096, 0)

    def test_by_how_often_each_step_is_gone(self):
        # On squares and triangles the order of the steps doesn't matter for the end.
        for a, b, c, d in itertools.product(range(4), repeat=4):
            self.ends_at(SQUARES, [3] * d + [1] * b + [0] * a + [2] * c, a - c, b - d)
        for a, b, c, d, e, f in itertools.product(range(3), repeat=6):
            steps = [5] * f + [0] * a + [4] * e + [2] * c + [1] * b + [3] * d
            self.ends_at(TRIANGLES, steps, a - c - d + f, b + c - e - f)

    def test_each_step_leads_to_a_neighbour(self):
        for n in range(7):
            for steps in itertools.product(range(HOW_MANY_STEPS[HONEYCOMB]), repeat=n):
                x, y = end(HONEYCOMB, list(steps))[1:]
                up = y + 1 if (x + y) in range(-20, 20, 2) else y - 1
                self.ends_at(HONEYCOMB, [*steps, 0], x + 1, y)
                self.ends_at(HONEYCOMB, [*steps, 1], x - 1, y)
                self.ends_at(HONEYCOMB, [*steps, 2], x, up)


if __name__ == "__main__":
    unittest.main()
