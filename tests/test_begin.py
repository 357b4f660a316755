import unittest

from talk import FARTHEST, ask, begin, excuse, last, let, objects, passes, strike

REFUSED = [-1]


class Answer(unittest.TestCase):
    def test_tells_how_it_stands(self):
        self.assertEqual(ask(begin()), [[0, 0, 0, 2, 2]])

    def test_tells_each_side_its_own_strikes(self):
        self.assertEqual(ask(begin(strikes0=4, strikes1=7)), [[0, 0, 0, 4, 7]])

    def test_turn_is_the_first_of_the_row(self):
        self.assertEqual(ask(begin(turns=(1, 1, 0))), [[0, 0, 1, 2, 2]])

    def test_first_of_the_panel_fill_the_box_by_their_order(self):
        for who in range(3):
            with self.subTest(who=who):
                self.assertEqual(last(begin(), excuse(who))[0], who)
        self.assertEqual(last(begin(), excuse(3)), [-4])


class Bounds(unittest.TestCase):
    def check(self, name, least, most, **others):
        for right in (least, most):
            with self.subTest(name=name, value=right):
                self.assertEqual(last(begin(**{**others, name: right}))[0], 0)
        for wrong in (least - 1, most + 1) + FARTHEST:
            with self.subTest(name=name, value=wrong):
                self.assertEqual(last(begin(**{**others, name: wrong})), REFUSED)

    def test_panel(self):
        self.check("panel", 1, 60)

    def test_seats(self):
        self.check("seats", 1, 12, panel=60)

    def test_alternates(self):
        self.check("alternates", 0, 4)

    def test_strikes_of_side_0(self):
        self.check("strikes0", 0, 10)

    def test_strikes_of_side_1(self):
        self.check("strikes1", 0, 10)

    def test_strikes_for_alternates(self):
        self.check("for_alternates", 0, 3)

    def test_whether_a_pass_uses_up_a_strike(self):
        self.check("uses_up", 0, 1)

    def test_everything_at_its_least(self):
        self.assertEqual(ask(begin(1, 1, 0, 0, 0, 0, 0)), [[0, 2, 0, 0, 0]])

    def test_everything_at_its_most(self):
        self.assertEqual(ask(begin(60, 12, 4, 10, 10, 3, 1)), [[0, 0, 0, 10, 10]])

    def test_a_panel_of_60_has_a_last_one_and_none_behind(self):
        calls = [begin(panel=60), excuse(59), excuse(60)]
        self.assertEqual(ask(*calls)[1:], [[-4], [-1]])


class Row(unittest.TestCase):
    def test_right_rows(self):
        for row in ((0, 1), (1, 0), (0,) * 9 + (1,), (1,) * 9 + (0,)):
            with self.subTest(row=row):
                self.assertEqual(last(begin(turns=row)), [0, 0, row[0], 2, 2])

    def test_wrong_rows(self):
        rows = [(), (0,), (1,), (0, 0, 0), (1, 1), (0, 1, 2), (2, 0, 1), (-1, 0, 1),
                (0, 1, 2147483647), (0, -2147483648, 1),
                (0, 1) * 5 + (0,), (0, 1) * 10, (0,) * 11]
        for row in rows:
            with self.subTest(row=row):
                self.assertEqual(last(begin(turns=row)), REFUSED)

    def test_what_stands_behind_a_refused_row_is_still_read_right(self):
        calls = [begin(turns=(5,) * 20), begin(turns=()), begin()]
        self.assertEqual(ask(*calls), [REFUSED, REFUSED, [0, 0, 0, 2, 2]])


class OneBehindAnother(unittest.TestCase):
    def test_a_refused_one_leaves_the_picking_as_it_was(self):
        calls = [begin(), strike(0, 1), begin(panel=61), begin(turns=()),
                 begin(uses_up=2), objects(1, 1), strike(1, 1)]
        self.assertEqual(ask(*calls), [
            [0, 0, 0, 2, 2], [1, 0, 1, 1, 2], REFUSED, REFUSED, REFUSED,
            [1, 0, 1, 1, 2], [1, 0, 0, 1, 1]])

    def test_a_refused_one_leaves_passes_and_rules_as_they_were(self):
        calls = [begin(uses_up=1, for_alternates=3), passes(0),
                 begin(uses_up=0, for_alternates=1, alternates=5), passes(1)]
        self.assertEqual(ask(*calls)[1:], [[0, 0, 1, 1, 2], REFUSED, [0, 1, 0, 3, 3]])

    def test_a_refused_one_at_the_beginning_leaves_nobody(self):
        self.assertEqual(ask(begin(seats=0), excuse(0), passes(0)), [[-1], [-1], [-3]])

    def test_a_new_one_ends_what_was(self):
        calls = [begin(), passes(0), strike(1, 0), begin(panel=3, strikes0=1), objects(0, 1),
                 excuse(3), passes(0), passes(1)]
        self.assertEqual(ask(*calls)[3:], [
            [0, 0, 0, 1, 2], [-4], [-1], [0, 0, 1, 1, 2], [0, 3, 0, 1, 1]])

    def test_a_new_one_counts_passes_from_none_on(self):
        calls = [begin(), passes(0), begin(), passes(0), passes(1)]
        self.assertEqual([answer[1] for answer in ask(*calls)], [0, 0, 0, 0, 1])

    def test_a_new_one_takes_turns_from_the_beginning_of_its_row(self):
        calls = [begin(), passes(0), begin(turns=(1, 0))]
        self.assertEqual(last(*calls), [0, 0, 1, 2, 2])

    def test_a_new_one_behind_an_oath_has_neither_jury_nor_alternates(self):
        calls = [begin(strikes0=0, strikes1=0, for_alternates=0), begin(), let(0), let(3)]
        self.assertEqual(ask(*calls), [[0, 2, 0, 0, 0], [0, 0, 0, 2, 2], [-3], [-3]])

    def test_a_new_one_behind_the_end(self):
        calls = [begin(3, 3, 0, 0, 0), let(0), begin()]
        self.assertEqual(ask(*calls)[1:], [[2, 4, 0, 1, 1], [0, 0, 0, 2, 2]])


class NotEnough(unittest.TestCase):
    def test_fewer_people_than_seats(self):
        calls = [begin(panel=2, seats=3, strikes0=4, strikes1=5)]
        self.assertEqual(ask(*calls), [[0, 3, 0, 4, 5]])

    def test_turn_is_0_even_when_the_row_begins_with_1(self):
        self.assertEqual(ask(begin(panel=2, turns=(1, 0))), [[0, 3, 0, 2, 2]])

    def test_just_as_many_people_as_seats(self):
        self.assertEqual(ask(begin(panel=3, seats=3)), [[0, 0, 0, 2, 2]])

    def test_without_strikes_nobody_is_sworn(self):
        self.assertEqual(ask(begin(2, 3, 0, 0, 0, 0)), [[0, 3, 0, 0, 0]])

    def test_nothing_more_can_be_done(self):
        calls = [begin(panel=2), excuse(0), strike(0, 0), passes(0), objects(1, 1), let(0)]
        self.assertEqual(ask(*calls)[1:], [[-3]] * 5)


if __name__ == "__main__":
    unittest.main()
