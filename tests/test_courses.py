"""What the document promises of every picking, over many courses of calls."""

import random
import unittest

from talk import (BOX, FATES, NOW, agree, ask, begin, excuse, let, objects, passes, strike,
                  verdict)

STEPS = 36


def some_call(numbers):
    kinds = (excuse, strike, passes, objects, let, agree, verdict)
    kind = numbers.choices(kinds, (1, 9, 2, 3, 2, 1, 1))[0]
    if kind in (excuse, let):
        return kind(numbers.randint(0, 9))
    if kind == passes:
        return kind(numbers.randint(0, 1))
    if kind == agree:
        return kind(numbers.randint(1, 4))
    if kind == verdict:
        return kind(*[numbers.randint(0, 1) for juror in range(numbers.randint(1, 4))])
    if kind == objects:
        return kind(numbers.randint(0, 1), numbers.randint(0, 1))
    return kind(numbers.randint(0, 1), numbers.randint(0, 9))


class Course:
    """A begin and calls behind it, each with what now, box and fates tell next."""

    def __init__(self, seed):
        numbers = random.Random(seed)
        self.chosen = [numbers.randint(0, most) for most in (4, 3, 3, 2, 1)]
        turns = [0, 1] + [numbers.randint(0, 1) for more in range(numbers.randint(0, 3))]
        numbers.shuffle(turns)
        self.calls = [begin(numbers.randint(5, 14), numbers.randint(1, 4), *self.chosen,
                            turns=turns)]
        self.calls += [some_call(numbers) for step in range(STEPS)]
        mixed = []
        for call in self.calls:
            mixed += [call, NOW, BOX, FATES]
        answered = ask(*mixed)
        self.steps = [answered[at:at + 4] for at in range(0, len(answered), 4)]


class Courses(unittest.TestCase):
    @classmethod
    def setUpClass(cls):
        cls.courses = [Course(seed) for seed in range(1500)]

    def over_all_steps(self, check):
        for seed, course in enumerate(self.courses):
            for step, told in enumerate(course.steps):
                with self.subTest(seed=seed, step=step, call=course.calls[step]):
                    check(*told)

    def test_every_phase_is_reached_often(self):
        reached = [0] * 5

        def check(answer, now, box, fates):
            reached[now[0]] += 1
        self.over_all_steps(check)
        for phase in range(5):
            self.assertGreater(reached[phase], 100)

    def test_nobody_sits_at_two_places(self):
        def check(answer, now, box, fates):
            placed = [who for who in box[1:] if who != -1]
            self.assertEqual(len(placed), len(set(placed)))
            seated = [who for who, fate in enumerate(fates[1:]) if fate in (1, 5)]
            self.assertEqual(sorted(placed), seated)
        self.over_all_steps(check)

    def test_alternates_are_those_told_behind_the_jurors(self):
        def check(answer, now, box, fates):
            alternates = [who for who, fate in enumerate(fates[1:]) if fate == 5]
            self.assertEqual(sorted(box[1 + box[0]:]) if now[0] in (2, 4) else [], alternates)
        self.over_all_steps(check)

    def test_while_strikes_are_made_every_seat_is_taken(self):
        def check(answer, now, box, fates):
            self.assertEqual(-1 in box, now[0] == 3)
        self.over_all_steps(check)

    def test_whose_turn_it_is_has_a_strike_left(self):
        def check(answer, now, box, fates):
            self.assertGreaterEqual(min(now[3:5]), 0)
            if now[0] > 1 or now[3:5] == [0, 0]:
                self.assertEqual(now[2], 0)
            else:
                self.assertGreater(now[3 + now[2]], 0)
        self.over_all_steps(check)

    def test_strikes_go_on_only_while_somebody_has_one_or_may_object(self):
        def check(answer, now, box, fates):
            if now[0] < 2 and now[3:5] == [0, 0]:
                self.assertNotEqual(now[8], -1)
            if now[8] != -1:
                self.assertLess(now[0], 2)
                self.assertIn(fates[1 + now[8]], (3, 4))
        self.over_all_steps(check)

    def test_who_waits_is_told_alike(self):
        def check(answer, now, box, fates):
            waiting = [who for who, fate in enumerate(fates[1:]) if fate == 0]
            self.assertEqual(now[5:7], [waiting[0] if waiting else -1, len(waiting)])
        self.over_all_steps(check)

    def test_a_sworn_jury_never_has_fewer_than_was_agreed(self):
        def check(answer, now, box, fates):
            if now[0] == 2:
                self.assertGreaterEqual(box[0], now[7])
            self.assertEqual(now[7] > 0, now[0] in (2, 4))
        self.over_all_steps(check)

    def test_how_it_stands_is_what_now_tells(self):
        def check(answer, now, box, fates):
            self.assertEqual(now[0], now[1])
            if len(answer) == 5:
                self.assertEqual(answer[1:], now[1:5])
        self.over_all_steps(check)

    def test_no_side_strikes_more_than_it_may(self):
        for seed, course in enumerate(self.courses):
            made = [0, 0]
            for call, told in zip(course.calls, course.steps):
                if call[0] == 3 and told[0][0] >= 0:
                    made[call[1]] += 1
            for side in (0, 1):
                with self.subTest(seed=seed, side=side):
                    allowed = course.chosen[1 + side] + course.chosen[3]
                    self.assertLessEqual(made[side], allowed)


if __name__ == "__main__":
    unittest.main()
