import unittest

from talk import ask, begin, excuse, last, let, objects, passes, strike


class Upheld(unittest.TestCase):
    def test_answers_1_and_how_it_stands(self):
        self.assertEqual(last(begin(), strike(0, 1), objects(1, 1)), [1, 0, 1, 1, 2])

    def test_who_was_struck_is_back_on_that_seat(self):
        calls = [begin(), strike(0, 1), objects(1, 1), excuse(1)]
        self.assertEqual(last(*calls)[0], 1)

    def test_who_was_put_there_waits_again_and_comes_next(self):
        calls = [begin(), strike(0, 1), objects(1, 1), excuse(3), excuse(0), excuse(3)]
        self.assertEqual([answer[0] for answer in ask(*calls)[3:]], [-4, 0, 0])

    def test_the_strike_is_used_up_all_the_same(self):
        calls = [begin(), strike(0, 1), objects(1, 1), strike(1, 1), objects(0, 1), passes(0)]
        self.assertEqual(last(*calls), [0, 0, 1, 1, 1])

    def test_who_is_back_may_be_struck_again(self):
        calls = [begin(), strike(0, 1), objects(1, 1), strike(1, 1), objects(0, 0), excuse(1)]
        self.assertEqual(ask(*calls)[3:], [[1, 0, 0, 1, 1], [0, 0, 0, 1, 1], [-4]])


class NotUpheld(unittest.TestCase):
    def test_answers_0_and_the_strike_stands(self):
        calls = [begin(), strike(0, 1), objects(1, 0), excuse(1), excuse(3)]
        self.assertEqual(ask(*calls)[2:], [[0, 0, 1, 1, 2], [-4], [1, 0, 1, 1, 2]])


class MayObject(unittest.TestCase):
    def test_to_its_own_strike_no_side_may(self):
        calls = [begin(), strike(0, 1), objects(0, 1), objects(0, 0), objects(1, 1),
                 strike(1, 0), objects(1, 1), objects(0, 1)]
        self.assertEqual(ask(*calls)[2:], [
            [-5], [-5], [1, 0, 1, 1, 2], [0, 0, 0, 1, 1], [-5], [1, 0, 0, 1, 1]])

    def test_nothing_was_done(self):
        self.assertEqual(ask(begin(), objects(0, 1), objects(1, 1))[1:], [[-4], [-4]])

    def test_only_the_last_strike(self):
        calls = [begin(), strike(0, 1), strike(1, 0), objects(1, 1), objects(0, 1), excuse(1)]
        self.assertEqual(ask(*calls)[3:], [[-5], [1, 0, 0, 1, 1], [-4]])

    def test_not_behind_a_pass(self):
        calls = [begin(), strike(0, 1), passes(1), objects(1, 1), objects(0, 1)]
        self.assertEqual(ask(*calls)[3:], [[-4], [-4]])

    def test_not_behind_somebody_excused(self):
        calls = [begin(), strike(0, 1), excuse(0), objects(1, 1), objects(0, 1)]
        self.assertEqual(ask(*calls)[3:], [[-4], [-4]])

    def test_not_behind_an_objection(self):
        for upheld in (0, 1):
            with self.subTest(upheld=upheld):
                calls = [begin(), strike(0, 1), objects(1, upheld), objects(1, 1), objects(0, 1)]
                self.assertEqual(ask(*calls)[3:], [[-4], [-4]])

    def test_still_behind_a_refused_call(self):
        calls = [begin(), strike(0, 1), strike(0, 0), passes(0), excuse(1), objects(0, 1),
                 let(0), begin(panel=0), objects(1, 1)]
        self.assertEqual(last(*calls), [1, 0, 1, 1, 2])


class LastStrikeOfAll(unittest.TestCase):
    first = [begin(strikes0=1, strikes1=1, turns=(1, 0)), strike(1, 0), strike(0, 1)]

    def test_nothing_ends_and_nothing_more_may_be_struck(self):
        calls = self.first + [strike(0, 2), strike(1, 2), passes(0), passes(1)]
        self.assertEqual(ask(*calls)[2:], [[1, 0, 0, 0, 0], [-5], [-5], [-5], [-5]])

    def test_turn_is_0_whoever_struck(self):
        calls = [begin(strikes0=1, strikes1=1), strike(0, 0), strike(1, 1)]
        self.assertEqual(last(*calls), [1, 0, 0, 0, 0])
        calls = [begin(strikes0=0, strikes1=1), strike(1, 1)]
        self.assertEqual(last(*calls), [1, 0, 0, 0, 0])

    def test_an_objection_not_upheld_ends_it(self):
        calls = self.first + [objects(1, 0), excuse(5)]
        self.assertEqual(ask(*calls)[3:], [[0, 1, 1, 1, 1], [0, 1, 1, 1, 1]])

    def test_an_objection_upheld_ends_it_with_who_was_struck_in_the_jury(self):
        # The jury is 3, 1, 2, and 4, put on 1's seat, is the first alternate.
        calls = self.first + [objects(1, 1), excuse(4), passes(1), passes(0), let(1)]
        self.assertEqual(ask(*calls)[3:], [
            [1, 1, 1, 1, 1], [0, 1, 1, 1, 1], [0, 1, 0, 1, 1], [0, 2, 0, 1, 1],
            [1, 2, 0, 1, 1]])

    def test_somebody_excused_ends_it(self):
        calls = self.first + [excuse(3), objects(1, 1), excuse(6)]
        self.assertEqual(ask(*calls)[3:], [[0, 1, 1, 1, 1], [-4], [0, 1, 1, 1, 1]])

    def test_somebody_excused_with_nobody_left_ends_it_otherwise(self):
        calls = [begin(panel=4, strikes0=1, strikes1=0), strike(0, 0), excuse(1)]
        self.assertEqual(last(*calls), [1, 3, 0, 0, 0])

    def test_a_refused_call_does_not_end_it(self):
        calls = self.first + [excuse(0), objects(0, 1), excuse(99), let(2), begin(seats=13),
                              objects(1, 2), objects(1, 1)]
        self.assertEqual(ask(*calls)[3:], [
            [-4], [-5], [-1], [-3], [-1], [-1], [1, 1, 1, 1, 1]])

    def test_for_alternates_too(self):
        calls = [begin(strikes0=0, strikes1=0), strike(0, 3), strike(1, 4), passes(0),
                 objects(0, 1), let(4)]
        self.assertEqual(ask(*calls), [
            [0, 1, 0, 1, 1], [0, 1, 1, 0, 1], [0, 1, 0, 0, 0], [-5], [1, 2, 0, 0, 0],
            [0, 2, 0, 0, 0]])

    def test_for_alternates_somebody_excused_ends_it_too(self):
        calls = [begin(strikes0=0, strikes1=0), strike(0, 3), strike(1, 4), excuse(5), let(6)]
        self.assertEqual(ask(*calls)[3:], [[0, 2, 0, 0, 0], [0, 2, 0, 0, 0]])


if __name__ == "__main__":
    unittest.main()
