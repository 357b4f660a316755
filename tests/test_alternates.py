import unittest

from talk import ask, begin, excuse, last, let, objects, passes, strike

NO_STRIKES = {"strikes0": 0, "strikes1": 0}


class Begins(unittest.TestCase):
    def test_strikes_anew_and_turns_from_the_row_beginning(self):
        calls = [begin(strikes0=3, for_alternates=2, turns=(1, 0, 0)), strike(1, 0), passes(0),
                 passes(0)]
        self.assertEqual(last(*calls), [0, 1, 1, 2, 2])

    def test_passes_count_from_none_on(self):
        calls = [begin(), passes(0), passes(1), passes(0), passes(1)]
        self.assertEqual([answer[1] for answer in ask(*calls)], [0, 0, 1, 1, 2])

    def test_without_any_strikes_it_begins_at_once(self):
        self.assertEqual(ask(begin(**NO_STRIKES)), [[0, 1, 0, 1, 1]])

    def test_the_jury_sits_in_the_box_no_more(self):
        calls = [begin(**NO_STRIKES), excuse(0), strike(0, 2), excuse(3)]
        self.assertEqual(ask(*calls)[1:], [[-4], [-4], [0, 1, 0, 1, 1]])

    def test_seats_are_filled_from_0_on_by_who_waits(self):
        calls = [begin(alternates=3, **NO_STRIKES), excuse(5), excuse(4), excuse(3), excuse(7)]
        self.assertEqual([answer[0] for answer in ask(*calls)[1:]], [2, 1, 0, 1])

    def test_the_rule_for_passes_is_in_force(self):
        calls = [begin(uses_up=1, for_alternates=3, **NO_STRIKES), passes(0), strike(1, 3),
                 passes(0)]
        self.assertEqual([answer[3:] for answer in ask(*calls)], [[3, 3], [2, 3], [2, 2], [1, 2]])

    def test_a_strike_may_be_objected_to(self):
        calls = [begin(for_alternates=2, alternates=2, **NO_STRIKES), strike(0, 4),
                 objects(0, 1), objects(1, 1), excuse(4)]
        self.assertEqual(ask(*calls)[1:], [
            [1, 1, 1, 1, 2], [-5], [1, 1, 1, 1, 2], [1, 1, 1, 1, 2]])

    def test_the_jurys_last_strike_may_be_objected_to_no_more(self):
        calls = [begin(strikes0=1, strikes1=0), strike(0, 0), excuse(1), objects(1, 1)]
        self.assertEqual(ask(*calls)[2:], [[1, 1, 0, 1, 1], [-4]])


class Ends(unittest.TestCase):
    def test_no_seats(self):
        self.assertEqual(ask(begin(alternates=0, for_alternates=0, **NO_STRIKES)),
                         [[0, 2, 0, 0, 0]])

    def test_no_seats_whatever_strikes_there_would_be(self):
        calls = [begin(alternates=0, for_alternates=3), passes(0), passes(1), strike(0, 0)]
        self.assertEqual(ask(*calls)[2:], [[0, 2, 0, 3, 3], [-3]])

    def test_no_seats_need_nobody_who_waits(self):
        self.assertEqual(ask(begin(panel=3, alternates=0, **NO_STRIKES)), [[0, 2, 0, 1, 1]])

    def test_no_strikes(self):
        calls = [begin(alternates=2, for_alternates=0, **NO_STRIKES), let(4), let(3), let(5)]
        self.assertEqual(ask(*calls), [
            [0, 2, 0, 0, 0], [0, 2, 0, 0, 0], [0, 2, 0, 0, 0], [-4]])

    def test_no_strikes_behind_strikes_for_the_jury(self):
        calls = [begin(for_alternates=0), passes(0), passes(1)]
        self.assertEqual(last(*calls), [0, 2, 0, 0, 0])

    def test_two_passes(self):
        calls = [begin(for_alternates=2, turns=(1, 0), **NO_STRIKES), passes(1), excuse(3),
                 passes(0)]
        self.assertEqual(ask(*calls)[1:], [[0, 1, 0, 2, 2], [0, 1, 0, 2, 2], [0, 2, 0, 2, 2]])

    def test_nothing_more_is_struck_or_excused_behind_the_oath(self):
        calls = [begin(for_alternates=0, **NO_STRIKES), excuse(0), excuse(3), strike(0, 0),
                 passes(0), objects(0, 1)]
        self.assertEqual(ask(*calls)[1:], [[-3]] * 5)


class NotEnough(unittest.TestCase):
    def test_when_the_seats_are_filled(self):
        calls = [begin(panel=4, alternates=2, strikes0=1, strikes1=1, for_alternates=3),
                 passes(0), passes(1), excuse(3), passes(0), let(0)]
        self.assertEqual(ask(*calls)[2:], [[0, 3, 0, 3, 3], [-3], [-3], [-3]])

    def test_when_the_seats_are_filled_and_nobody_could_be_struck(self):
        self.assertEqual(ask(begin(panel=3, for_alternates=0, **NO_STRIKES)), [[0, 3, 0, 0, 0]])

    def test_when_the_seats_are_filled_behind_an_objection(self):
        calls = [begin(panel=4, alternates=1, strikes0=1, strikes1=0), strike(0, 0)]
        self.assertEqual(last(*calls, objects(1, 0)), [0, 3, 0, 1, 1])
        self.assertEqual(last(*calls, objects(1, 1)), [1, 1, 0, 1, 1])

    def test_just_enough(self):
        self.assertEqual(ask(begin(panel=4, **NO_STRIKES)), [[0, 1, 0, 1, 1]])

    def test_after_a_strike(self):
        calls = [begin(panel=4, **NO_STRIKES), strike(0, 3), objects(1, 1)]
        self.assertEqual(ask(*calls)[1:], [[0, 3, 0, 0, 1], [-3]])

    def test_after_somebody_is_excused(self):
        calls = [begin(panel=4, turns=(1, 0), **NO_STRIKES), excuse(3), passes(1)]
        self.assertEqual(ask(*calls)[1:], [[0, 3, 0, 1, 1], [-3]])


if __name__ == "__main__":
    unittest.main()
