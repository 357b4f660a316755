import unittest

from talk import (BOX, agree, ask, begin, excuse, last, let, objects, passes, strike, sworn,
                  verdict)

NO_STRIKES = {"strikes0": 0, "strikes1": 0}


def box(*calls):
    return last(*calls, BOX)


class Jury(unittest.TestCase):
    """Phase 0."""

    def test_first_of_the_panel_by_their_order(self):
        self.assertEqual(box(begin()), [3, 0, 1, 2])
        self.assertEqual(box(begin(panel=1, seats=1)), [1, 0])
        self.assertEqual(box(begin(panel=60, seats=12)), [12] + list(range(12)))

    def test_somebody_comes_to_the_seat_that_is_empty(self):
        self.assertEqual(box(begin(), strike(0, 1)), [3, 0, 3, 2])
        self.assertEqual(box(begin(), strike(0, 1), strike(1, 0)), [3, 4, 3, 2])
        self.assertEqual(box(begin(), excuse(2)), [3, 0, 1, 3])
        self.assertEqual(box(begin(), excuse(2), excuse(3)), [3, 0, 1, 4])

    def test_a_pass_moves_nobody(self):
        self.assertEqual(box(begin(), strike(0, 1), passes(1)), [3, 0, 3, 2])

    def test_who_was_struck_sits_again_by_an_objection_upheld(self):
        self.assertEqual(box(begin(), strike(0, 1), objects(1, 1)), [3, 0, 1, 2])
        self.assertEqual(box(begin(), strike(0, 1), objects(1, 1), excuse(0)), [3, 3, 1, 2])

    def test_the_strike_stands_by_an_objection_not_upheld(self):
        self.assertEqual(box(begin(), strike(0, 1), objects(1, 0)), [3, 0, 3, 2])

    def test_while_the_last_strike_may_be_objected_to(self):
        self.assertEqual(box(begin(strikes0=1, strikes1=0), strike(0, 2)), [3, 0, 1, 3])


class Alternates(unittest.TestCase):
    """Phase 1: the jury is told behind the seats."""

    def test_the_seats_of_the_alternates_and_then_the_jury(self):
        self.assertEqual(box(begin(alternates=2, **NO_STRIKES)), [2, 3, 4, 0, 1, 2])

    def test_the_jury_by_its_seats(self):
        calls = [begin(), strike(0, 0), strike(1, 2), passes(0), passes(1)]
        self.assertEqual(box(*calls), [1, 5, 3, 1, 4])

    def test_strikes_move_the_alternates_alone(self):
        calls = [begin(alternates=2, **NO_STRIKES), strike(0, 3)]
        self.assertEqual(box(*calls), [2, 5, 4, 0, 1, 2])
        self.assertEqual(box(*calls, objects(1, 1)), [2, 3, 4, 0, 1, 2])
        self.assertEqual(box(*calls, objects(1, 0), excuse(4)), [2, 5, 6, 0, 1, 2])

    def test_who_waits_again_by_the_jurys_last_objection_comes_first(self):
        calls = [begin(alternates=2, strikes0=1, strikes1=0), strike(0, 0), objects(1, 1)]
        self.assertEqual(box(*calls), [2, 3, 4, 0, 1, 2])


class Sworn(unittest.TestCase):
    """Phases 2 and 4: jurors, then alternates."""

    def test_jurors_and_then_alternates(self):
        self.assertEqual(box(sworn(alternates=2)), [3, 0, 1, 2, 3, 4])

    def test_by_their_seats(self):
        calls = [begin(alternates=2), excuse(0), passes(0), passes(1), strike(0, 4), passes(1),
                 passes(1)]
        self.assertEqual(box(*calls), [3, 3, 1, 2, 6, 5])

    def test_without_alternates(self):
        self.assertEqual(box(sworn(alternates=0)), [3, 0, 1, 2])
        self.assertEqual(box(begin(alternates=0), passes(0), passes(1)), [3, 0, 1, 2])

    def test_an_alternate_takes_the_place_of_who_was_let_go(self):
        self.assertEqual(box(sworn(alternates=2), let(1)), [3, 0, 3, 2, 4])
        self.assertEqual(box(sworn(alternates=2), let(1), let(0)), [3, 4, 3, 2])
        self.assertEqual(box(sworn(alternates=2), let(1), let(3)), [3, 0, 4, 2])

    def test_an_alternate_who_was_let_go_is_told_no_more(self):
        self.assertEqual(box(sworn(alternates=2), let(3)), [3, 0, 1, 2, 4])
        self.assertEqual(box(sworn(alternates=2), let(4)), [3, 0, 1, 2, 3])

    def test_a_jury_that_is_one_fewer_moves_together(self):
        calls = [sworn(alternates=0), agree(1), let(1)]
        self.assertEqual(box(*calls), [2, 0, 2])
        self.assertEqual(box(*calls, let(0)), [1, 2])

    def test_over_by_one_juror_too_few(self):
        self.assertEqual(box(sworn(alternates=0), let(0)), [2, 1, 2])
        self.assertEqual(box(sworn(seats=1, alternates=0), let(0)), [0])

    def test_over_by_a_verdict(self):
        self.assertEqual(box(sworn(alternates=2), verdict(1, 1, 1)), [3, 0, 1, 2, 3, 4])
        self.assertEqual(box(sworn(alternates=2), verdict(0, 1, 1)), [3, 0, 1, 2, 3, 4])

    def test_the_least_alone_moves_nobody(self):
        self.assertEqual(box(sworn(alternates=1), agree(1)), [3, 0, 1, 2, 3])


class NotEnough(unittest.TestCase):
    """Phase 3: the seats as they are, then the jury, if it's picked."""

    def test_for_the_box(self):
        self.assertEqual(box(begin(panel=2, seats=4)), [4, 0, 1, -1, -1])
        self.assertEqual(box(begin(panel=3), strike(0, 1)), [3, 0, -1, 2])
        self.assertEqual(box(begin(panel=3), excuse(0)), [3, -1, 1, 2])

    def test_for_the_box_when_the_last_strike_was_made(self):
        self.assertEqual(box(begin(panel=3, strikes0=1, strikes1=0), strike(0, 2)), [3, 0, 1, -1])

    def test_for_the_alternates_at_once(self):
        self.assertEqual(box(begin(panel=5, alternates=4, **NO_STRIKES)),
                         [4, 3, 4, -1, -1, 0, 1, 2])
        self.assertEqual(box(begin(panel=3, alternates=2, **NO_STRIKES)), [2, -1, -1, 0, 1, 2])

    def test_for_the_alternates_behind_a_strike_or_somebody_excused(self):
        calls = [begin(panel=5, alternates=2, **NO_STRIKES)]
        self.assertEqual(box(*calls, strike(0, 3)), [2, -1, 4, 0, 1, 2])
        self.assertEqual(box(*calls, excuse(4)), [2, 3, -1, 0, 1, 2])


class Begin(unittest.TestCase):
    def test_ahead_of_any(self):
        self.assertEqual(ask(BOX), [[0]])
        self.assertEqual(ask(begin(seats=0), BOX), [[-1], [0]])

    def test_one_that_is_refused_changes_nothing(self):
        self.assertEqual(box(begin(), strike(0, 1), begin(panel=0)), [3, 0, 3, 2])
        self.assertEqual(box(sworn(), let(1), begin(panel=0)), [3, 0, 3, 2])

    def test_of_what_was_nothing_is_left(self):
        for calls in ([begin(), strike(0, 1)], [begin(**NO_STRIKES)], [sworn(alternates=4)],
                      [begin(panel=3, **NO_STRIKES)], [sworn(alternates=0), let(0)]):
            with self.subTest(calls=calls):
                self.assertEqual(box(*calls, begin(seats=2)), [2, 0, 1])
                self.assertEqual(box(*calls, begin(panel=1, seats=2)), [2, 0, -1])
                self.assertEqual(box(*calls, sworn(seats=2, alternates=0)), [2, 0, 1])


if __name__ == "__main__":
    unittest.main()
