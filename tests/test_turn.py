import unittest

from answers import GREATEST_NUMBER, SQUARES, same_answer
from neverback.walks import turn
from reckoning import all_steps, never_twice, true_walks

# By the turn's number, then by the step's: the step it is turned into.
TURNED = (
    (0, 1, 2, 3),
    (1, 2, 3, 0),
    (2, 3, 0, 1),
    (3, 0, 1, 2),
    (0, 3, 2, 1),
    (1, 0, 3, 2),
    (2, 1, 0, 3),
    (3, 2, 1, 0),
)
TURNS = range(len(TURNED))
TURNS_OUT_OF_RANGE = (8, 9, 12, 255, 256, 2**31, GREATEST_NUMBER - 1, GREATEST_NUMBER)

# Round a square of 50 by 50 and, a step before the first place, away from it.
ALMOST_A_RING = [0] * 50 + [1] * 50 + [2] * 50 + [3] * 49 + [2]


class Turn(unittest.TestCase):
    def gives(self, at, how, steps, first, wanted):
        with self.subTest(at=at, turn=how, steps=steps[:10]):
            same_answer(self, turn(at, how, steps), [first] + wanted)

    def is_refused(self, at, how, steps, number):
        with self.subTest(at=at, turn=how, steps=steps[:10]):
            same_answer(self, turn(at, how, steps), [number])

    def test_one_step(self):
        for how in TURNS:
            for step in range(4):
                self.gives(0, how, [step], 1, [TURNED[how][step]])

    def test_at_the_first_step(self):
        # Turned as a whole, it is as true as it was.
        for how in TURNS:
            self.gives(0, how, [0, 1, 2, 2, 3], 1, [TURNED[how][step] for step in (0, 1, 2, 2, 3)])

    def test_within_the_walk(self):
        self.gives(2, 0, [0, 0, 1, 1], 1, [0, 0, 1, 1])
        self.gives(2, 1, [0, 0, 1, 1], 0, [0, 0, 2, 2])
        self.gives(2, 2, [0, 0, 1, 1], 1, [0, 0, 3, 3])
        self.gives(2, 3, [0, 0, 1, 1], 1, [0, 0, 0, 0])
        self.gives(2, 4, [0, 0, 1, 1], 1, [0, 0, 3, 3])
        self.gives(2, 5, [0, 0, 1, 1], 1, [0, 0, 0, 0])
        self.gives(2, 6, [0, 0, 1, 1], 1, [0, 0, 1, 1])
        self.gives(2, 7, [0, 0, 1, 1], 0, [0, 0, 2, 2])

    def test_at_the_last_step(self):
        self.gives(2, 0, [0, 1, 1], 1, [0, 1, 1])
        self.gives(2, 1, [0, 1, 1], 1, [0, 1, 2])
        self.gives(2, 2, [0, 1, 1], 0, [0, 1, 3])
        self.gives(2, 3, [0, 1, 1], 1, [0, 1, 0])
        self.gives(2, 4, [0, 1, 1], 0, [0, 1, 3])
        self.gives(2, 5, [0, 1, 1], 1, [0, 1, 0])
        self.gives(2, 6, [0, 1, 1], 1, [0, 1, 1])
        self.gives(2, 7, [0, 1, 1], 1, [0, 1, 2])

    def test_at_the_first_place_again(self):
        self.gives(3, 1, [0, 1, 2, 2], 0, [0, 1, 2, 3])
        self.gives(3, 5, [0, 1, 2, 2], 0, [0, 1, 2, 3])

    def test_every_walk_and_every_turn(self):
        for n in range(1, 6):
            for steps in true_walks(SQUARES, n):
                for at in range(n):
                    for how in TURNS:
                        wanted = steps[:at] + [TURNED[how][step] for step in steps[at:]]
                        self.gives(at, how, steps, int(never_twice(SQUARES, wanted)), wanted)

    def test_200_steps(self):
        straight = [0] * 200
        for how in TURNS:
            step = TURNED[how][0]
            self.gives(0, how, straight, 1, [step] * 200)
            self.gives(100, how, straight, 0 if step == 2 else 1, [0] * 100 + [step] * 100)
            self.gives(199, how, straight, 0 if step == 2 else 1, [0] * 199 + [step])

    def test_200_steps_that_meet_at_the_last_alone(self):
        self.assertEqual(len(ALMOST_A_RING), 200)
        for how in TURNS:
            step = TURNED[how][2]
            self.gives(199, how, ALMOST_A_RING, 0 if step in (1, 3) else 1, ALMOST_A_RING[:-1] + [step])

    def test_4096_steps(self):
        self.gives(0, 1, [0] * 4096, 1, [1] * 4096)
        self.gives(4095, 2, [0] * 4096, 0, [0] * 4095 + [2])

    def test_no_steps(self):
        for at in (0, 1, GREATEST_NUMBER):
            for how in (*TURNS, *TURNS_OUT_OF_RANGE):
                self.is_refused(at, how, [], -2)

    def test_more_than_4096_steps(self):
        self.is_refused(0, 0, [0] * 4097, -2)
        self.is_refused(0, 0, [255] * 4097, -2)
        self.is_refused(0, 0, [0, 2] * 2049, -2)

    def test_at_out_of_range(self):
        for steps in ([0], [0, 1, 2], [0] * 200):
            n = len(steps)
            for at in (n, n + 1, 255, 256, 4096, 2**31, GREATEST_NUMBER - 1, GREATEST_NUMBER):
                for how in TURNS:
                    self.is_refused(at, how, steps, -2)

    def test_turns_out_of_range(self):
        for how in TURNS_OUT_OF_RANGE:
            self.is_refused(0, how, [0], -2)
            self.is_refused(2, how, [0, 1, 2], -2)
            self.is_refused(199, how, [0] * 200, -2)

    def test_at_and_turn_out_of_range(self):
        for how in TURNS_OUT_OF_RANGE:
            self.is_refused(1, how, [0], -2)
            self.is_refused(GREATEST_NUMBER, how, [0, 1, 2], -2)

    def test_steps_that_are_none_of_squares(self):
        for wrong in range(4, 256):
            self.is_refused(0, 0, [wrong], -3)
        for where in (0, 1, 100, 198, 199):
            steps = [0] * 200
            steps[where] = 4
            for at in (0, 100, 199):
                self.is_refused(at, 7, steps, -3)

    def test_walks_that_are_not_true(self):
        # Also where turning would mend it.
        self.is_refused(1, 0, [0, 2], -3)
        self.is_refused(1, 1, [0, 2], -3)
        self.is_refused(1, 2, [0, 2], -3)
        self.is_refused(3, 2, [0, 1, 2, 3], -3)
        self.is_refused(0, 4, [0, 1, 2, 3], -3)
        self.is_refused(199, 2, [0] * 199 + [2], -3)
        self.is_refused(0, 0, [0, 2] + [3] * 198, -3)

    def test_all_walks_that_are_not_true(self):
        for n in range(2, 5):
            for steps in all_steps(SQUARES, n):
                if not never_twice(SQUARES, steps):
                    for how in TURNS:
                        self.is_refused(n - 1, how, steps, -3)

    def test_a_wrong_step_in_a_walk_that_is_not_true(self):
        self.is_refused(0, 0, [0, 2, 4], -3)
        self.is_refused(2, 7, [255, 0, 2], -3)

    def test_out_of_range_comes_first(self):
        for steps in ([4], [0, 255, 0], [0, 2], [0, 1, 2, 3], [0, 2, 4], [4] * 200, [0, 2] * 100):
            self.is_refused(len(steps), 0, steps, -2)
            self.is_refused(GREATEST_NUMBER, 7, steps, -2)
            self.is_refused(0, 8, steps, -2)
            self.is_refused(0, GREATEST_NUMBER, steps, -2)
            self.is_refused(GREATEST_NUMBER, GREATEST_NUMBER, steps, -2)


if __name__ == "__main__":
    unittest.main()
