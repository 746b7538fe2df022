"""What holds for every call: that nothing is changed, kept or printed."""

import contextlib
import io
import unittest

from answers import GREATEST_KIND, GREATEST_NUMBER, HONEYCOMB, SQUARES, TRIANGLES, Untouched, same_answer
from neverback.walks import bridges, count, end, is_true, next_walk, rings, spread, turn

SOME_WALKS = (
    (SQUARES, [0, 1, 2]),
    (SQUARES, [0, 1, 2, 3]),
    (SQUARES, [3, 3, 3]),
    (TRIANGLES, [5, 5, 0]),
    (TRIANGLES, [2, 5, 1]),
    (HONEYCOMB, [1, 2, 1, 2]),
    (HONEYCOMB, []),
    (HONEYCOMB, [0, 3]),
    (3, [0]),
)
SOME_TURNS = (
    (0, 0, [0, 1, 2]),
    (0, 5, [0, 1, 2]),
    (1, 1, [0, 1, 2]),
    (3, 6, [3, 3, 0, 0]),
    (3, 2, [3, 3, 0, 0]),
    (0, 3, [2]),
    (0, 0, []),
    (1, 8, [0, 0]),
    (0, 1, [0, 4]),
    (0, 1, [0, 2]),
)
SOME_NUMBERS = (
    (SQUARES, 5),
    (SQUARES, 0),
    (TRIANGLES, 4),
    (HONEYCOMB, 7),
    (HONEYCOMB, 17),
    (GREATEST_KIND, GREATEST_NUMBER),
)
STEP_CALLS = [(call, walk) for call in (is_true, end, next_walk) for walk in SOME_WALKS]
STEP_CALLS += [(turn, arguments) for arguments in SOME_TURNS]
NUMBER_CALLS = [(call, numbers) for call in (count, rings) for numbers in SOME_NUMBERS]
NUMBER_CALLS += [(call, (n,)) for call in (bridges, spread) for n in (0, 3, 6, 17, GREATEST_NUMBER)]
SOME_CALLS = STEP_CALLS + NUMBER_CALLS


class Calls(unittest.TestCase):
    def test_what_is_handed_in_stays(self):
        for call, (*numbers, steps) in STEP_CALLS:
            handed = Untouched(steps)
            call(*numbers, handed)
            self.assertEqual(handed, steps)

    def test_what_is_given_back_is_another_list(self):
        for call, (*numbers, steps) in STEP_CALLS:
            self.assertIsNot(call(*numbers, steps), steps)

    def test_a_second_call_answers_as_the_first(self):
        first = [call(*arguments) for call, arguments in SOME_CALLS]
        again = [call(*arguments) for call, arguments in reversed(SOME_CALLS)]
        self.assertEqual(first, list(reversed(again)))

    def test_changing_an_answer_changes_no_other(self):
        for call, arguments in SOME_CALLS:
            first = call(*arguments)
            kept = list(first)
            first.append(7)
            first[0] = 9
            same_answer(self, call(*arguments), kept)

    def test_the_same_list_with_other_steps(self):
        steps = [0, 1, 2]
        same_answer(self, is_true(SQUARES, steps), [1])
        same_answer(self, end(SQUARES, steps), [0, 0, 1])
        same_answer(self, next_walk(SQUARES, steps), [0, 0, 3, 0])
        same_answer(self, turn(2, 3, steps), [1, 0, 1, 1])
        steps.append(3)
        same_answer(self, is_true(SQUARES, steps), [0])
        same_answer(self, end(SQUARES, steps), [0, 0, 0])
        same_answer(self, next_walk(SQUARES, steps), [0, 0, 3, 0, 0])
        same_answer(self, turn(2, 3, steps), [-3])

    def test_nothing_is_printed(self):
        for stream in (contextlib.redirect_stdout, contextlib.redirect_stderr):
            with stream(io.StringIO()) as printed:
                for call, arguments in SOME_CALLS:
                    call(*arguments)
            self.assertEqual(printed.getvalue(), "")


if __name__ == "__main__":
    unittest.main()
