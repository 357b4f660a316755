import unittest

from talk import ask, begin, excuse, last, objects, passes, strike


class Strike(unittest.TestCase):
    def test_answers_the_seat_and_takes_a_strike_from_that_side(self):
        calls = [begin(), strike(0, 1), strike(1, 2)]
        self.assertEqual(ask(*calls)[1:], [[1, 0, 1, 1, 2], [2, 0, 0, 1, 1]])

    def test_the_first_who_waits_comes_to_the_empty_seat(self):
        calls = [begin(), strike(0, 1), strike(1, 0), excuse(3), excuse(4), excuse(5)]
        self.assertEqual([answer[0] for answer in ask(*calls)[1:]], [1, 0, 1, 0, 1])

    def test_who_was_struck_or_still_waits_does_not_sit(self):
        calls = [begin(), strike(0, 1), strike(1, 1), strike(1, 4), excuse(1), excuse(9)]
        self.assertEqual(ask(*calls)[2:], [[-4]] * 4)

    def test_only_whose_turn_it_is(self):
        calls = [begin(), strike(1, 0), passes(1), strike(0, 0), strike(0, 1), passes(0)]
        self.assertEqual(ask(*calls)[1:], [[-5], [-5], [0, 0, 1, 1, 2], [-5], [-5]])


class Excuse(unittest.TestCase):
    def test_answers_the_seat_and_changes_nobodys_turn(self):
        calls = [begin(turns=(1, 0)), excuse(2), excuse(3), strike(1, 0), excuse(5)]
        self.assertEqual(ask(*calls)[1:], [
            [2, 0, 1, 2, 2], [2, 0, 1, 2, 2], [0, 0, 0, 2, 1], [0, 0, 0, 2, 1]])

    def test_somebody_else_comes_to_that_seat(self):
        calls = [begin(), excuse(1), excuse(3), excuse(4), excuse(0), excuse(1)]
        self.assertEqual([answer[0] for answer in ask(*calls)[1:]], [1, 1, 1, 0, -4])


class Turns(unittest.TestCase):
    def turns(self, calls):
        return [answer[2] for answer in ask(*calls)]

    def test_the_row_begins_again_behind_its_end(self):
        calls = [begin(30, 3, 0, 9, 9, 0, 0, (0, 1, 1)),
                 strike(0, 0), strike(1, 3), strike(1, 4), strike(0, 5), strike(1, 6),
                 strike(1, 7), strike(0, 8)]
        self.assertEqual(self.turns(calls), [0, 1, 1, 0, 1, 1, 0, 1])

    def test_a_pass_goes_on_in_the_row_too(self):
        calls = [begin(30, 3, 0, 9, 9, 0, 0, (1, 1, 0, 1)),
                 passes(1), strike(1, 0), passes(0), strike(1, 3), passes(1), strike(1, 4)]
        self.assertEqual(self.turns(calls), [1, 1, 0, 1, 1, 1, 0])

    def test_a_side_without_strikes_at_the_beginning_is_passed_over(self):
        calls = [begin(strikes0=0), strike(0, 0), passes(0), strike(1, 0)]
        self.assertEqual(ask(*calls), [[0, 0, 1, 0, 2], [-5], [-5], [0, 0, 1, 0, 1]])

    def test_several_places_of_a_side_without_strikes_are_passed_over(self):
        calls = [begin(strikes0=0, turns=(0, 0, 0, 1)), strike(1, 0)]
        self.assertEqual(self.turns(calls), [1, 1])

    def test_a_side_whose_strikes_are_gone_is_passed_over(self):
        calls = [begin(strikes0=1, strikes1=3, turns=(1, 0)),
                 strike(1, 0), strike(0, 1), strike(1, 2), strike(1, 3)]
        self.assertEqual(ask(*calls)[1:], [
            [0, 0, 0, 1, 2], [1, 0, 1, 0, 2], [2, 0, 1, 0, 1], [0, 0, 0, 0, 0]])

    def test_a_side_whose_strikes_are_gone_is_passed_over_at_the_rows_end(self):
        calls = [begin(strikes0=2, strikes1=1, turns=(0, 1, 1)), strike(0, 0), strike(1, 1)]
        self.assertEqual(last(*calls), [1, 0, 0, 1, 0])

    def test_an_upheld_objection_leaves_the_turn_gone_on(self):
        calls = [begin(strikes0=3, turns=(0, 0, 1)), strike(0, 0), objects(1, 1),
                 strike(0, 0), objects(1, 1)]
        self.assertEqual(self.turns(calls), [0, 0, 0, 1, 1])


class Passes(unittest.TestCase):
    def test_two_one_behind_another_end_it(self):
        calls = [begin(for_alternates=3), passes(0), passes(1)]
        self.assertEqual(ask(*calls)[1:], [[0, 0, 1, 2, 2], [0, 1, 0, 3, 3]])

    def test_two_of_the_same_side_end_it(self):
        calls = [begin(strikes1=0), passes(0), passes(0)]
        self.assertEqual(ask(*calls)[1:], [[0, 0, 0, 2, 0], [0, 1, 0, 1, 1]])

    def test_somebody_excused_between_them_does_not_part_them(self):
        calls = [begin(), passes(0), excuse(0), excuse(1), passes(1)]
        self.assertEqual(last(*calls), [0, 1, 0, 1, 1])

    def test_a_strike_between_them_parts_them(self):
        calls = [begin(strikes0=3), passes(0), strike(1, 0), passes(0), passes(1)]
        self.assertEqual(ask(*calls)[2:], [[0, 0, 0, 3, 1], [0, 0, 1, 3, 1], [0, 1, 0, 1, 1]])

    def test_a_strike_undone_by_an_objection_parts_them_all_the_same(self):
        calls = [begin(), passes(0), strike(1, 0), objects(0, 1), passes(0)]
        self.assertEqual(last(*calls), [0, 0, 1, 2, 1])

    def test_a_refused_call_between_them_does_not_part_them(self):
        calls = [begin(), passes(0), strike(0, 0), strike(1, 9), passes(0), passes(1)]
        self.assertEqual(last(*calls), [0, 1, 0, 1, 1])

    def test_a_refused_pass_is_not_counted(self):
        calls = [begin(), passes(1), passes(0), passes(0), passes(2)]
        self.assertEqual(ask(*calls)[1:], [[-5], [0, 0, 1, 2, 2], [-5], [-1]])

    def test_a_pass_uses_up_no_strike(self):
        calls = [begin(uses_up=0), passes(0), strike(1, 0), passes(0)]
        self.assertEqual([answer[3:] for answer in ask(*calls)[1:]], [[2, 2], [2, 1], [2, 1]])

    def test_a_pass_uses_up_a_strike_by_the_rule(self):
        calls = [begin(uses_up=1), passes(0), strike(1, 0), passes(0)]
        self.assertEqual([answer[3:] for answer in ask(*calls)[1:]], [[1, 2], [1, 1], [0, 1]])

    def test_a_side_that_passed_its_strikes_away_is_passed_over(self):
        calls = [begin(strikes0=1, uses_up=1), passes(0), strike(1, 0)]
        self.assertEqual(ask(*calls)[1:], [[0, 0, 1, 0, 2], [0, 0, 1, 0, 1]])

    def test_a_pass_that_uses_up_the_last_strike_of_all_ends_it(self):
        calls = [begin(strikes0=1, strikes1=1, uses_up=1), strike(0, 0), passes(1)]
        self.assertEqual(ask(*calls)[1:], [[0, 0, 1, 0, 1], [0, 1, 0, 1, 1]])

    def test_a_single_pass_that_uses_up_the_only_strike_ends_it(self):
        calls = [begin(strikes0=0, strikes1=1, uses_up=1), passes(1)]
        self.assertEqual(last(*calls), [0, 1, 0, 1, 1])

    def test_passes_behind_the_end_are_refused(self):
        calls = [begin(alternates=0), passes(0), passes(1), passes(0)]
        self.assertEqual(ask(*calls)[2:], [[0, 2, 0, 1, 1], [-3]])


class NotEnough(unittest.TestCase):
    def test_after_a_strike(self):
        calls = [begin(panel=4), strike(0, 0), strike(1, 1), objects(0, 1), passes(0),
                 excuse(2)]
        self.assertEqual(ask(*calls)[1:], [
            [0, 0, 1, 1, 2], [1, 3, 0, 1, 1], [-3], [-3], [-3]])

    def test_after_the_last_strike_of_all(self):
        calls = [begin(panel=3, strikes0=1, strikes1=0), strike(0, 2), objects(1, 1)]
        self.assertEqual(ask(*calls)[1:], [[2, 3, 0, 0, 0], [-3]])

    def test_after_somebody_is_excused(self):
        calls = [begin(panel=4, turns=(1, 0)), excuse(1), excuse(3), excuse(0)]
        self.assertEqual(ask(*calls)[1:], [[1, 0, 1, 2, 2], [1, 3, 0, 2, 2], [-3]])

    def test_somebody_who_was_put_back_to_wait_suffices(self):
        calls = [begin(panel=4), strike(0, 0), objects(1, 1), strike(1, 0), objects(0, 0),
                 strike(0, 3)]
        self.assertEqual(ask(*calls)[2:], [
            [1, 0, 1, 1, 2], [0, 0, 0, 1, 1], [0, 0, 0, 1, 1], [0, 3, 0, 0, 1]])


if __name__ == "__main__":
    unittest.main()
