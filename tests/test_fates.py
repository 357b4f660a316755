import unittest

from talk import (BOX, FATES, agree, ask, begin, excuse, last, let, objects, passes, strike, sworn,
                  verdict)

NO_STRIKES = {"strikes0": 0, "strikes1": 0}


def fates(*calls):
    return last(*calls, FATES)


class Each(unittest.TestCase):
    def test_sits_or_waits(self):
        self.assertEqual(fates(begin(panel=5)), [5, 1, 1, 1, 0, 0])
        self.assertEqual(fates(begin(panel=60)), [60, 1, 1, 1] + [0] * 57)

    def test_excused(self):
        self.assertEqual(fates(begin(panel=5), excuse(1)), [5, 1, 2, 1, 1, 0])

    def test_struck_by_side_0_and_by_side_1(self):
        calls = [begin(panel=6), strike(0, 2), strike(1, 0)]
        self.assertEqual(fates(*calls), [6, 4, 1, 3, 1, 1, 0])

    def test_sits_for_an_alternate_till_all_are_sworn(self):
        calls = [begin(panel=6, alternates=2, **NO_STRIKES)]
        self.assertEqual(fates(*calls), [6, 1, 1, 1, 1, 1, 0])
        self.assertEqual(fates(*calls, passes(0), passes(1)), [6, 1, 1, 1, 5, 5, 0])

    def test_struck_for_alternates(self):
        calls = [begin(panel=7, alternates=2, **NO_STRIKES), strike(0, 4), strike(1, 3)]
        self.assertEqual(fates(*calls), [7, 1, 1, 1, 4, 3, 1, 1])
        self.assertEqual(fates(*calls, objects(0, 0)), [7, 1, 1, 1, 4, 3, 5, 5])

    def test_let_go(self):
        calls = [sworn(panel=6, alternates=2)]
        self.assertEqual(fates(*calls, let(3)), [6, 1, 1, 1, 6, 5, 0])
        self.assertEqual(fates(*calls, let(1)), [6, 1, 6, 1, 1, 5, 0])
        self.assertEqual(fates(*calls, let(1), let(3)), [6, 1, 6, 1, 6, 1, 0])

    def test_all_of_them_at_one_time(self):
        calls = [begin(alternates=2, for_alternates=0), strike(0, 0), strike(1, 1), excuse(2),
                 passes(0), passes(1), let(4)]
        self.assertEqual(fates(*calls), [10, 3, 4, 2, 1, 6, 1, 1, 5, 0, 0])

    def test_behind_each_of_lets_answers(self):
        calls = [sworn(panel=6, alternates=2), agree(2), let(4), FATES, let(0), FATES, let(1),
                 FATES, let(2), FATES]
        self.assertEqual(ask(*calls)[2:], [
            [0, 2, 0, 0, 0], [6, 1, 1, 1, 5, 6, 0],
            [1, 2, 0, 0, 0], [6, 6, 1, 1, 1, 6, 0],
            [2, 2, 0, 0, 0], [6, 6, 6, 1, 1, 6, 0],
            [2, 4, 0, 0, 0], [6, 6, 6, 6, 1, 6, 0]])

    def test_a_verdict_changes_none(self):
        for says in ((1, 1, 1), (0, 0, 0), (1, 0, 0)):
            with self.subTest(says=says):
                self.assertEqual(fates(sworn(panel=5), verdict(*says)), [5, 1, 1, 1, 5, 0])


class Objection(unittest.TestCase):
    def test_upheld_who_was_struck_sits_and_who_was_put_there_waits_and_comes_next(self):
        calls = [begin(panel=5), strike(0, 1), FATES, objects(1, 1), FATES, BOX, excuse(2), BOX,
                 FATES]
        self.assertEqual(ask(*calls)[2:], [
            [5, 1, 3, 1, 1, 0], [1, 0, 1, 1, 2], [5, 1, 1, 1, 0, 0], [3, 0, 1, 2],
            [2, 0, 1, 1, 2], [3, 0, 1, 3], [5, 1, 1, 2, 1, 0]])

    def test_upheld_against_side_1(self):
        calls = [begin(panel=5, turns=(1, 0)), strike(1, 1), objects(0, 1)]
        self.assertEqual(fates(*calls), [5, 1, 1, 1, 0, 0])

    def test_not_upheld_the_strike_stands(self):
        calls = [begin(panel=5), strike(0, 1), objects(1, 0)]
        self.assertEqual(fates(*calls), [5, 1, 3, 1, 1, 0])

    def test_upheld_and_struck_again_by_the_other_side(self):
        calls = [begin(panel=5), strike(0, 1), objects(1, 1), strike(1, 1)]
        self.assertEqual(fates(*calls), [5, 1, 4, 1, 1, 0])

    def test_upheld_for_an_alternate(self):
        calls = [begin(panel=6, **NO_STRIKES), strike(0, 3), objects(1, 1)]
        self.assertEqual(fates(*calls), [6, 1, 1, 1, 1, 0, 0])
        calls = [begin(panel=6, **NO_STRIKES), strike(0, 3), strike(1, 4), objects(0, 1)]
        self.assertEqual(fates(*calls), [6, 1, 1, 1, 3, 5, 0])


class NotEnough(unittest.TestCase):
    def test_for_the_box(self):
        self.assertEqual(fates(begin(panel=2)), [2, 1, 1])
        self.assertEqual(fates(begin(panel=3), strike(0, 1)), [3, 1, 3, 1])
        self.assertEqual(fates(begin(panel=3), excuse(1)), [3, 1, 2, 1])

    def test_for_the_alternates_nobody_becomes_one(self):
        self.assertEqual(fates(begin(panel=5, alternates=4, **NO_STRIKES)), [5, 1, 1, 1, 1, 1])
        self.assertEqual(fates(begin(panel=4, **NO_STRIKES), strike(0, 3)), [4, 1, 1, 1, 3])


class Begin(unittest.TestCase):
    def test_ahead_of_any(self):
        self.assertEqual(ask(FATES), [[0]])
        self.assertEqual(ask(begin(seats=0), FATES), [[-1], [0]])

    def test_one_that_is_refused_changes_nothing(self):
        calls = [begin(panel=5), strike(0, 1), begin(panel=61)]
        self.assertEqual(fates(*calls), [5, 1, 3, 1, 1, 0])

    def test_of_what_was_nothing_is_left(self):
        for calls in ([begin(), strike(0, 1)], [sworn(), let(0)], [begin(panel=2)]):
            with self.subTest(calls=calls):
                self.assertEqual(fates(*calls, begin(panel=5)), [5, 1, 1, 1, 0, 0])


if __name__ == "__main__":
    unittest.main()
