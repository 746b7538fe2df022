import bisect
import unittest

from answers import GREATEST_KIND, HONEYCOMB, HOW_MANY_STEPS, KINDS, SQUARES, TRIANGLES, same_answer
from neverback.walks import next_walk
from reckoning import all_steps, true_walks

# The most steps that are asked of each kind.
MOST_ASKED = {SQUARES: 6, TRIANGLES: 5, HONEYCOMB: 8}


def last_walk(kind, n):
    """The last true walk of n steps: straight on, but on the honeycomb, where step 2 leads back again."""
    return ([2, 1] * n)[:n] if kind == HONEYCOMB else [HOW_MANY_STEPS[kind] - 1] * n


class NextWalk(unittest.TestCase):
    def comes_next(self, kind, steps, wanted):
        with self.subTest(kind=kind, steps=steps):
            same_answer(self, next_walk(kind, steps), [0] + wanted)

    def answers(self, kind, steps, number):
        with self.subTest(kind=kind, steps=steps):
            same_answer(self, next_walk(kind, steps), [number])

    def test_no_steps(self):
        for kind in KINDS:
            self.answers(kind, [], -5)

    def test_one_step(self):
        for kind in KINDS:
            last = HOW_MANY_STEPS[kind] - 1
            for step in range(last):
                self.comes_next(kind, [step], [step + 1])
            self.answers(kind, [last], -5)

    def test_only_the_last_step_changes(self):
        self.comes_next(SQUARES, [0, 0], [0, 1])
        self.comes_next(SQUARES, [0, 1], [0, 3])
        self.comes_next(SQUARES, [0, 0, 1, 1, 2, 1], [0, 0, 1, 1, 2, 2])
        self.comes_next(TRIANGLES, [0, 1], [0, 2])
        self.comes_next(TRIANGLES, [0, 2], [0, 4])
        self.comes_next(TRIANGLES, [5, 5, 5, 5, 4], [5, 5, 5, 5, 5])
        self.comes_next(HONEYCOMB, [0, 0], [0, 2])
        self.comes_next(HONEYCOMB, [2, 0, 2, 0], [2, 0, 2, 1])

    def test_an_earlier_step_changes(self):
        self.comes_next(SQUARES, [0, 3], [1, 0])
        self.comes_next(SQUARES, [1, 2], [2, 1])
        self.comes_next(SQUARES, [0, 1, 2], [0, 3, 0])
        self.comes_next(SQUARES, [0, 3, 3, 3, 3, 3], [1, 0, 0, 0, 0, 0])
        self.comes_next(TRIANGLES, [0, 5], [1, 0])
        self.comes_next(TRIANGLES, [0, 2, 3], [0, 4, 0])
        self.comes_next(TRIANGLES, [1, 5, 5, 5, 5], [2, 0, 0, 0, 0])
        self.comes_next(HONEYCOMB, [0, 2], [1, 1])
        self.comes_next(HONEYCOMB, [1, 2], [2, 0])

    def test_walks_that_are_not_true(self):
        self.comes_next(SQUARES, [0, 2], [0, 3])
        self.comes_next(SQUARES, [0, 2, 0], [0, 3, 0])
        self.comes_next(SQUARES, [0, 2, 3], [0, 3, 0])
        self.comes_next(SQUARES, [2, 0, 0, 0], [2, 1, 0, 0])
        self.comes_next(SQUARES, [0, 1, 2, 3], [0, 3, 0, 0])
        self.comes_next(SQUARES, [1, 3, 0, 0, 0, 0], [2, 1, 0, 0, 0, 0])
        self.comes_next(TRIANGLES, [0, 3], [0, 4])
        self.comes_next(TRIANGLES, [0, 2, 4], [0, 4, 0])
        self.comes_next(TRIANGLES, [0, 3, 5, 5, 5], [0, 4, 0, 0, 0])
        self.comes_next(HONEYCOMB, [0, 1], [0, 2])
        self.comes_next(HONEYCOMB, [1, 0, 2], [1, 1, 1])
        self.comes_next(HONEYCOMB, [2, 0, 0, 2, 1, 1], [2, 0, 0, 2, 1, 2])

    def test_the_last_walk(self):
        for kind in KINDS:
            for n in range(1, MOST_ASKED[kind] + 1):
                last = last_walk(kind, n)
                self.assertEqual(last, true_walks(kind, n)[-1])
                self.answers(kind, last, -5)

    def test_behind_the_last_walk(self):
        self.answers(HONEYCOMB, [2, 2], -5)
        self.answers(HONEYCOMB, [2, 2, 0], -5)
        self.answers(HONEYCOMB, [2, 1, 2, 2], -5)
        self.answers(HONEYCOMB, [2, 2, 2, 2, 2, 2, 2, 2], -5)

    def test_the_last_but_one(self):
        for kind in KINDS:
            for n in range(1, MOST_ASKED[kind] + 1):
                self.comes_next(kind, true_walks(kind, n)[-2], last_walk(kind, n))

    def test_most_steps_asked(self):
        self.comes_next(SQUARES, [0, 0, 0, 0, 0, 0], [0, 0, 0, 0, 0, 1])
        self.comes_next(SQUARES, [0, 0, 0, 0, 0, 3], [0, 0, 0, 0, 1, 0])
        self.answers(SQUARES, [3, 3, 3, 3, 3, 3], -5)
        self.comes_next(TRIANGLES, [0, 0, 0, 0, 0], [0, 0, 0, 0, 1])
        self.comes_next(TRIANGLES, [0, 0, 0, 0, 5], [0, 0, 0, 1, 0])
        self.answers(TRIANGLES, [5, 5, 5, 5, 5], -5)
        self.comes_next(HONEYCOMB, [0, 0, 0, 0, 0, 0, 0, 0], [0, 0, 0, 0, 0, 0, 0, 2])
        self.comes_next(HONEYCOMB, [0, 0, 0, 0, 0, 0, 0, 2], [0, 0, 0, 0, 0, 0, 2, 0])
        self.answers(HONEYCOMB, [2, 1, 2, 1, 2, 1, 2, 1], -5)

    def test_a_dead_end_on_the_way(self):
        # After 3 0 0 1 1 2 3 all four places around are taken, so no walk of 8 steps begins with it.
        self.comes_next(SQUARES, [3, 0, 0, 1, 1, 2, 2, 2], [3, 0, 0, 1, 2, 1, 0, 0])
        self.comes_next(SQUARES, [3, 0, 0, 1, 1, 2, 3, 0], [3, 0, 0, 1, 2, 1, 0, 0])

    def test_through_all_true_walks(self):
        for kind in KINDS:
            for n in range(1, MOST_ASKED[kind] + 1):
                # Straight on by step 0 is the first one of every kind.
                gone = [[0] * n]
                answer = next_walk(kind, gone[-1])
                while answer[0] == 0 and len(gone) <= HOW_MANY_STEPS[kind] ** n:
                    gone.append(answer[1:])
                    answer = next_walk(kind, gone[-1])
                with self.subTest(kind=kind, n=n):
                    same_answer(self, answer, [-5])
                    # assertEqual would show how they differ, and take very long for lists of this size.
                    self.assertTrue(gone == true_walks(kind, n))

    def test_after_all_steps_true_or_not(self):
        for kind in KINDS:
            for n in range(1, MOST_ASKED[kind] + 1):
                walks = true_walks(kind, n)
                for steps in all_steps(kind, n):
                    after = bisect.bisect_right(walks, steps)
                    wanted = [0] + walks[after] if after < len(walks) else [-5]
                    if next_walk(kind, steps) != wanted:
                        self.fail((kind, steps, next_walk(kind, steps), wanted))

    def test_kinds_out_of_range(self):
        for kind in (3, 4, 255, GREATEST_KIND - 1, GREATEST_KIND):
            self.answers(kind, [], -2)
            self.answers(kind, [0], -2)
            self.answers(kind, [0] * 8, -2)

    def test_steps_that_are_none_of_the_kind(self):
        self.answers(SQUARES, [0, 4], -3)
        self.answers(SQUARES, [4, 0, 0, 0, 0, 0], -3)
        self.answers(TRIANGLES, [0, 0, 0, 0, 6], -3)
        self.answers(TRIANGLES, [0, 255, 0], -3)
        self.answers(HONEYCOMB, [0, 0, 0, 0, 0, 0, 0, 3], -3)
        self.answers(HONEYCOMB, [0, 1, 3], -3)

    def test_out_of_range_comes_before_a_wrong_step(self):
        for kind in (3, GREATEST_KIND):
            for step in (3, 4, 6, 255):
                self.answers(kind, [step], -2)
                self.answers(kind, [0, 0, step], -2)

    def test_a_wrong_step_comes_before_none_after(self):
        for kind in KINDS:
            wrong = HOW_MANY_STEPS[kind]
            self.answers(kind, [wrong], -3)
            self.answers(kind, [wrong] * MOST_ASKED[kind], -3)
            self.answers(kind, last_walk(kind, MOST_ASKED[kind] - 1) + [wrong], -3)
            self.answers(kind, [255] + last_walk(kind, MOST_ASKED[kind] - 1), -3)


if __name__ == "__main__":
    unittest.main()
