import unittest

from talk import ask, begin, excuse, last, let, passes, strike, sworn


class Juror(unittest.TestCase):
    def test_is_replaced_by_the_first_alternate(self):
        calls = [sworn(alternates=2), let(1), let(1), let(3), let(4)]
        self.assertEqual(ask(*calls)[1:], [[1, 2, 0, 0, 0], [-4], [1, 2, 0, 0, 0],
                                           [2, 4, 0, 0, 0]])

    def test_who_replaced_one_is_no_alternate_any_more(self):
        # 3 takes 0's place, so letting 3 go again takes 4, and none is left for 4.
        calls = [sworn(alternates=2), let(0), let(3), let(4)]
        self.assertEqual([answer[0] for answer in ask(*calls)[1:]], [1, 1, 2])

    def test_without_an_alternate_the_jury_is_one_fewer_and_it_is_over(self):
        calls = [sworn(alternates=0), let(2)]
        self.assertEqual(ask(*calls), [[0, 2, 0, 0, 0], [2, 4, 0, 0, 0]])

    def test_nobody_is_let_go_behind_the_end(self):
        calls = [sworn(alternates=0), let(2), let(0), let(2), let(99)]
        self.assertEqual(ask(*calls)[2:], [[-3], [-3], [-1]])

    def test_the_least_is_as_many_as_there_are_seats(self):
        for seats in (1, 5, 12):
            with self.subTest(seats=seats):
                calls = [sworn(panel=20, seats=seats, alternates=1), let(0), let(seats)]
                self.assertEqual(ask(*calls)[1:], [[1, 2, 0, 0, 0], [2, 4, 0, 0, 0]])

    def test_a_bigger_least_of_an_earlier_picking_does_not_hold(self):
        calls = [sworn(panel=12, seats=12, alternates=0), sworn(seats=2, alternates=1), let(0)]
        self.assertEqual(last(*calls), [1, 2, 0, 0, 0])


class Alternate(unittest.TestCase):
    def test_goes_without_a_change_of_the_jury(self):
        calls = [sworn(alternates=2), let(3), let(3), let(0), let(4)]
        self.assertEqual(ask(*calls)[1:], [[0, 2, 0, 0, 0], [-4], [1, 2, 0, 0, 0],
                                           [2, 4, 0, 0, 0]])

    def test_the_last_one_goes_and_it_is_not_over(self):
        calls = [sworn(alternates=1), let(3), let(0)]
        self.assertEqual(ask(*calls)[1:], [[0, 2, 0, 0, 0], [2, 4, 0, 0, 0]])

    def test_they_come_by_their_seats(self):
        # 3 was struck and 6 came to that seat, so the alternates are 6, 4, 5.
        calls = [begin(strikes0=0, strikes1=0, alternates=3), strike(0, 3), passes(1),
                 passes(1), let(0), let(6), let(4), let(5)]
        self.assertEqual(ask(*calls)[3:], [
            [0, 2, 0, 0, 1], [1, 2, 0, 0, 1], [1, 2, 0, 0, 1], [1, 2, 0, 0, 1],
            [2, 4, 0, 0, 1]])


class Neither(unittest.TestCase):
    def test_who_waits_was_struck_excused_or_let_go(self):
        calls = [begin(strikes0=1, strikes1=0, for_alternates=0, alternates=0), strike(0, 0),
                 excuse(1), let(0), let(1), let(9), let(2)]
        self.assertEqual(ask(*calls)[1:], [
            [0, 0, 0, 0, 0], [1, 2, 0, 0, 0], [-4], [-4], [-4], [2, 4, 0, 0, 0]])

    def test_only_when_all_are_sworn(self):
        for calls in ([begin()], [begin(strikes0=0, strikes1=0)], [begin(panel=2)]):
            with self.subTest(calls=calls):
                self.assertEqual(last(*calls, let(0)), [-3])

    def test_strikes_left_are_told_as_they_were(self):
        calls = [begin(for_alternates=3, alternates=1), passes(0), passes(1), passes(0),
                 passes(1), let(3), let(0)]
        self.assertEqual(ask(*calls)[4:], [[0, 2, 0, 3, 3], [0, 2, 0, 3, 3], [2, 4, 0, 3, 3]])


if __name__ == "__main__":
    unittest.main()
