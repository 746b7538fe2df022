"""What holds for is_true and for end alike: refusals, and that nothing is changed or kept."""

import contextlib
import io
import unittest

from answers import GREATEST_KIND, HONEYCOMB, HOW_MANY_STEPS, KINDS, SQUARES, TRIANGLES, Untouched, same_answer
from neverback.walks import end, is_true

CALLS = (is_true, end)
SOME_CALLS = (
    (SQUARES, [0, 1, 2]),
    (SQUARES, [0, 1, 2, 3]),
    (TRIANGLES, [5, 5, 0]),
    (TRIANGLES, [2, 5, 1]),
    (HONEYCOMB, [1, 2, 1, 2]),
    (HONEYCOMB, []),
    (HONEYCOMB, [0, 3]),
    (3, [0]),
)


class Refusals(unittest.TestCase):
    def answers(self, kind, steps, wanted):
        for call in CALLS:
            with self.subTest(call=call.__name__, kind=kind, steps=steps[:10]):
                same_answer(self, call(kind, steps), wanted)

    def test_kinds_out_of_range(self):
        for kind in (3, 4, 255, 2**16, GREATEST_KIND - 1, GREATEST_KIND):
            self.answers(kind, [], [-2])
            self.answers(kind, [0], [-2])
            self.answers(kind, [0] * 200, [-2])

    def test_the_greatest_kind_in_range(self):
        for call in CALLS:
            self.assertGreaterEqual(call(2, [2])[0], 0)
            self.assertGreaterEqual(call(2, [])[0], 0)

    def test_the_least_and_the_greatest_step(self):
        for kind in KINDS:
            for step in (0, HOW_MANY_STEPS[kind] - 1):
                for call in CALLS:
                    with self.subTest(call=call.__name__, kind=kind, step=step):
                        self.assertGreaterEqual(call(kind, [step])[0], 0)

    def test_steps_that_are_none_of_the_kind(self):
        for kind in KINDS:
            for step in range(HOW_MANY_STEPS[kind], 256):
                self.answers(kind, [step], [-3])

    def test_such_a_step_anywhere(self):
        for kind in KINDS:
            wrong = HOW_MANY_STEPS[kind]
            for at in (0, 1, 100, 198, 199):
                steps = [0] * 200
                steps[at] = wrong
                self.answers(kind, steps, [-3])

    def test_such_a_step_in_a_walk_that_is_not_true(self):
        self.answers(SQUARES, [0, 2, 4], [-3])
        self.answers(SQUARES, [4, 0, 2], [-3])
        self.answers(TRIANGLES, [0, 3, 6], [-3])
        self.answers(HONEYCOMB, [2, 2, 3], [-3])

    def test_out_of_range_comes_first(self):
        for kind in (3, GREATEST_KIND):
            for step in (3, 4, 6, 255):
                self.answers(kind, [step], [-2])
                self.answers(kind, [0] * 199 + [step], [-2])

    def test_more_than_4096_steps(self):
        for kind in KINDS:
            self.answers(kind, [0] * 4097, [-2])
            self.answers(kind, [255] * 4097, [-2])
            self.answers(kind, [255] * 4096, [-3])


class Calls(unittest.TestCase):
    def test_names_of_the_arguments(self):
        same_answer(self, is_true(kind=1, steps=[4, 5]), [1])
        same_answer(self, end(kind=1, steps=[4, 5]), [0, 1, -2])

    def test_what_is_handed_in_stays(self):
        for call in CALLS:
            for kind, steps in SOME_CALLS:
                handed = Untouched(steps)
                call(kind, handed)
                self.assertEqual(handed, steps)

    def test_what_is_given_back_is_another_list(self):
        for call in CALLS:
            for kind, steps in SOME_CALLS:
                self.assertIsNot(call(kind, steps), steps)

    def test_a_second_call_answers_as_the_first(self):
        for call in CALLS:
            first = [call(kind, list(steps)) for kind, steps in SOME_CALLS]
            again = [call(kind, list(steps)) for kind, steps in reversed(SOME_CALLS)]
            self.assertEqual(first, list(reversed(again)))

    def test_changing_an_answer_changes_no_other(self):
        for call in CALLS:
            for kind, steps in SOME_CALLS:
                first = call(kind, steps)
                kept = list(first)
                first.append(7)
                first[0] = 9
                same_answer(self, call(kind, steps), kept)

    def test_the_same_list_with_other_steps(self):
        steps = [0, 1, 2]
        same_answer(self, is_true(SQUARES, steps), [1])
        same_answer(self, end(SQUARES, steps), [0, 0, 1])
        steps.append(3)
        same_answer(self, is_true(SQUARES, steps), [0])
        same_answer(self, end(SQUARES, steps), [0, 0, 0])

    def test_nothing_is_printed(self):
        for stream in (contextlib.redirect_stdout, contextlib.redirect_stderr):
            with stream(io.StringIO()) as printed:
                for call in CALLS:
                    for kind, steps in SOME_CALLS:
                        call(kind, steps)
            self.assertEqual(printed.getvalue(), "")


if __name__ == "__main__":
    unittest.main()
