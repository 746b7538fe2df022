"""What is refused alike by every call that takes a kind and steps."""

import unittest

from answers import GREATEST_KIND, HONEYCOMB, HOW_MANY_STEPS, KINDS, SQUARES, TRIANGLES, same_answer
from neverback.walks import end, is_true, next_walk

LONG_CALLS = (is_true, end)
SHORT_CALLS = (is_true, end, next_walk)


def calls_that_take(steps):
    """next_walk is handed at most 8 steps."""
    return SHORT_CALLS if len(steps) <= 8 else LONG_CALLS


class Refusals(unittest.TestCase):
    def answers(self, kind, steps, wanted):
        for call in calls_that_take(steps):
            with self.subTest(call=call.__name__, kind=kind, steps=steps[:10]):
                same_answer(self, call(kind, steps), wanted)

    def is_taken(self, kind, steps):
        for call in calls_that_take(steps):
            with self.subTest(call=call.__name__, kind=kind, steps=steps):
                self.assertNotIn(call(kind, steps), ([-2], [-3]))

    def test_kinds_out_of_range(self):
        for kind in (3, 4, 255, 2**16, GREATEST_KIND - 1, GREATEST_KIND):
            self.answers(kind, [], [-2])
            self.answers(kind, [0], [-2])
            self.answers(kind, [0] * 200, [-2])

    def test_the_greatest_kind_in_range(self):
        self.is_taken(2, [2])
        self.is_taken(2, [])

    def test_the_least_and_the_greatest_step(self):
        for kind in KINDS:
            for step in (0, HOW_MANY_STEPS[kind] - 1):
                self.is_taken(kind, [step])

    def test_steps_that_are_none_of_the_kind(self):
        for kind in KINDS:
            for step in range(HOW_MANY_STEPS[kind], 256):
                self.answers(kind, [step], [-3])

    def test_such_a_step_anywhere(self):
        for kind in KINDS:
            wrong = HOW_MANY_STEPS[kind]
            for at in (0, 1, 100, 198, 199):
                steps = [0] * 200
                steps[at] = wrong
                self.answers(kind, steps, [-3])

    def test_such_a_step_anywhere_in_a_few(self):
        for kind in KINDS:
            for at in range(5):
                steps = [0] * 5
                steps[at] = HOW_MANY_STEPS[kind]
                self.answers(kind, steps, [-3])
                steps[at] = 255
                self.answers(kind, steps, [-3])

    def test_such_a_step_in_a_walk_that_is_not_true(self):
        self.answers(SQUARES, [0, 2, 4], [-3])
        self.answers(SQUARES, [4, 0, 2], [-3])
        self.answers(TRIANGLES, [0, 3, 6], [-3])
        self.answers(HONEYCOMB, [2, 2, 3], [-3])

    def test_out_of_range_comes_first(self):
        for kind in (3, GREATEST_KIND):
            for step in (3, 4, 6, 255):
                self.answers(kind, [step], [-2])
                self.answers(kind, [0] * 199 + [step], [-2])

    def test_more_than_4096_steps(self):
        for kind in KINDS:
            self.answers(kind, [0] * 4097, [-2])
            self.answers(kind, [255] * 4097, [-2])
            self.answers(kind, [255] * 4096, [-3])


if __name__ == "__main__":
    unittest.main()
