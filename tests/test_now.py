import unittest

from talk import (BOX, FATES, NOW, agree, ask, begin, excuse, last, let, objects, passes, strike,
                  sworn, verdict)

NO_STRIKES = {"strikes0": 0, "strikes1": 0}


class Phases(unittest.TestCase):
    def test_ahead_of_any_begin(self):
        self.assertEqual(ask(NOW), [[4, 4, 0, 0, 0, -1, 0, 0, -1]])

    def test_strikes_at_the_box(self):
        calls = [begin(strikes0=4, strikes1=7, turns=(1, 0)), NOW]
        self.assertEqual(last(*calls), [0, 0, 1, 4, 7, 3, 7, 0, -1])

    def test_strikes_for_alternates(self):
        calls = [begin(alternates=2, for_alternates=3, turns=(1, 0), **NO_STRIKES), NOW]
        self.assertEqual(last(*calls), [1, 1, 1, 3, 3, 5, 5, 0, -1])

    def test_sworn(self):
        self.assertEqual(last(sworn(), NOW), [2, 2, 0, 0, 0, 4, 6, 3, -1])

    def test_sworn_with_strikes_left(self):
        calls = [begin(for_alternates=2, turns=(1, 0), **NO_STRIKES), passes(1), passes(0), NOW]
        self.assertEqual(last(*calls), [2, 2, 0, 2, 2, 4, 6, 3, -1])

    def test_too_few_for_the_box(self):
        calls = [begin(panel=2, strikes0=4, strikes1=7, turns=(1, 0)), NOW]
        self.assertEqual(last(*calls), [3, 3, 0, 4, 7, -1, 0, 0, -1])

    def test_too_few_for_the_alternates(self):
        calls = [begin(panel=4, alternates=2, for_alternates=3, **NO_STRIKES), NOW]
        self.assertEqual(last(*calls), [3, 3, 0, 3, 3, -1, 0, 0, -1])

    def test_over_by_one_juror_too_few(self):
        calls = [sworn(alternates=0), let(1), NOW]
        self.assertEqual(last(*calls), [4, 4, 0, 0, 0, 3, 7, 3, -1])

    def test_over_by_a_verdict(self):
        calls = [sworn(), agree(2), verdict(1, 1, 1), NOW]
        self.assertEqual(last(*calls), [4, 4, 0, 0, 0, 4, 6, 2, -1])

    def test_the_last_strike_of_all(self):
        calls = [begin(strikes0=0, strikes1=1), strike(1, 2), NOW]
        self.assertEqual(last(*calls), [0, 0, 0, 0, 0, 4, 6, 0, 2])

    def test_tells_how_it_stands_behind_the_phase(self):
        calls = [begin(strikes0=3, uses_up=1), passes(0), strike(1, 0), NOW]
        answered = ask(*calls)
        self.assertEqual(answered[3][:5], [0] + answered[2][1:])


class Begin(unittest.TestCase):
    def test_one_that_is_refused_changes_nothing(self):
        for calls in ([begin(), strike(0, 1)], [sworn(), agree(2)], [begin(panel=2)], []):
            with self.subTest(calls=calls):
                answered = ask(*calls, NOW, begin(turns=()), NOW)
                self.assertEqual(answered[-3], answered[-1])

    def test_of_what_was_nothing_is_left(self):
        fresh = last(begin(turns=(1, 0)), NOW)
        for calls in ([begin(), strike(0, 1)], [sworn(), agree(2)], [begin(panel=2)],
                      [sworn(alternates=0), let(0)], [begin(**NO_STRIKES), strike(0, 3)]):
            with self.subTest(calls=calls):
                self.assertEqual(last(*calls, begin(turns=(1, 0)), NOW), fresh)


class Waiting(unittest.TestCase):
    def waiting(self, *calls):
        return last(*calls, NOW)[5:7]

    def test_who_comes_next_and_how_many_wait(self):
        self.assertEqual(self.waiting(begin()), [3, 7])
        self.assertEqual(self.waiting(begin(), strike(0, 1)), [4, 6])
        self.assertEqual(self.waiting(begin(), strike(0, 1), excuse(0), passes(1)), [5, 5])

    def test_who_is_told_comes_next(self):
        calls = [begin(), excuse(1), NOW, excuse(0), BOX]
        answered = ask(*calls)
        self.assertEqual(answered[4][1], answered[2][5])

    def test_an_upheld_objection_puts_somebody_back(self):
        self.assertEqual(self.waiting(begin(), strike(0, 1), objects(1, 1)), [3, 7])
        self.assertEqual(self.waiting(begin(), strike(0, 1), objects(1, 0)), [4, 6])

    def test_an_upheld_objection_puts_somebody_back_ahead_of_the_others(self):
        calls = [begin(), excuse(0), strike(0, 1), objects(1, 1), NOW, excuse(2), BOX]
        answered = ask(*calls)
        self.assertEqual(answered[4][5:7], [4, 6])
        self.assertEqual(answered[6], [3, 3, 1, 4])

    def test_somebody_put_back_fills_the_alternates_first_seat(self):
        calls = [begin(strikes0=1, strikes1=0), strike(0, 1), objects(1, 1), NOW, BOX]
        self.assertEqual(ask(*calls)[3:], [[1, 1, 0, 1, 1, 4, 6, 0, -1], [1, 3, 0, 1, 2]])

    def test_nobody_waits(self):
        self.assertEqual(self.waiting(begin(panel=3)), [-1, 0])
        self.assertEqual(self.waiting(begin(panel=4), strike(0, 0)), [-1, 0])
        self.assertEqual(self.waiting(sworn(panel=4)), [-1, 0])
        self.assertEqual(last(begin(panel=3), NOW), [0, 0, 0, 2, 2, -1, 0, 0, -1])

    def test_the_last_one_waits(self):
        self.assertEqual(self.waiting(begin(panel=4)), [3, 1])
        self.assertEqual(self.waiting(begin(panel=4), strike(0, 0), objects(1, 1)), [3, 1])
        self.assertEqual(self.waiting(begin(panel=60, seats=1)), [1, 59])

    def test_nobody_of_those_let_go_waits(self):
        calls = [sworn(alternates=1), agree(1), let(0), let(1), let(2)]
        self.assertEqual(self.waiting(*calls), [4, 6])


class Least(unittest.TestCase):
    def least(self, *calls):
        return last(*calls, NOW)[7]

    def test_0_ahead_of_phase_2(self):
        self.assertEqual(self.least(begin()), 0)
        self.assertEqual(self.least(begin(**NO_STRIKES)), 0)
        self.assertEqual(self.least(begin(panel=2)), 0)
        self.assertEqual(self.least(begin(panel=3, **NO_STRIKES)), 0)

    def test_as_many_as_there_are_seats(self):
        for seats in (1, 2, 12):
            for alternates in (0, 4):
                with self.subTest(seats=seats, alternates=alternates):
                    self.assertEqual(self.least(sworn(panel=20, seats=seats,
                                                      alternates=alternates)), seats)

    def test_stays_whoever_is_let_go(self):
        calls = [sworn(alternates=1), let(3)]
        self.assertEqual(self.least(*calls), 3)
        self.assertEqual(self.least(*calls, agree(2), let(0)), 2)
        self.assertEqual(self.least(sworn(), let(0)), 3)

    def test_stays_behind_a_verdict_that_ends_nothing(self):
        self.assertEqual(self.least(sworn(), verdict(1, 0, 1)), 3)


class Struck(unittest.TestCase):
    def struck(self, *calls):
        return last(*calls, NOW)[8]

    def test_nobody_yet(self):
        self.assertEqual(self.struck(begin()), -1)

    def test_behind_a_strike(self):
        self.assertEqual(self.struck(begin(), strike(0, 1)), 1)
        self.assertEqual(self.struck(begin(), strike(0, 0)), 0)
        self.assertEqual(self.struck(begin(), strike(0, 1), strike(1, 3)), 3)

    def test_behind_a_strike_for_alternates(self):
        self.assertEqual(self.struck(begin(**NO_STRIKES), strike(0, 3)), 3)

    def test_behind_an_objection_upheld_or_not(self):
        for upheld in (0, 1):
            with self.subTest(upheld=upheld):
                self.assertEqual(self.struck(begin(), strike(0, 1), objects(1, upheld)), -1)

    def test_behind_a_pass(self):
        self.assertEqual(self.struck(begin(), strike(0, 1), passes(1)), -1)

    def test_behind_somebody_excused(self):
        self.assertEqual(self.struck(begin(), strike(0, 1), excuse(0)), -1)

    def test_behind_a_call_that_is_refused(self):
        refused = [excuse(1), excuse(10), strike(0, 0), strike(1, 1), passes(0), objects(0, 1),
                   objects(1, 2), let(0), agree(1), agree(0), verdict(1, 1, 1), verdict(2),
                   begin(panel=0)]
        for call in refused:
            with self.subTest(refused=call):
                answered = ask(begin(), strike(0, 1), call, NOW, objects(1, 1))
                self.assertLess(answered[2][0], 0)
                self.assertEqual(answered[3][8], 1)
                self.assertEqual(answered[4], [1, 0, 1, 1, 2])

    def test_behind_now_box_and_fates_themselves(self):
        calls = [begin(), strike(0, 1), NOW, BOX, FATES, NOW, objects(1, 1)]
        answered = ask(*calls)
        self.assertEqual((answered[2][8], answered[5][8]), (1, 1))
        self.assertEqual(answered[6], [1, 0, 1, 1, 2])

    def test_when_the_panel_does_not_suffice_for_the_seat(self):
        self.assertEqual(last(begin(panel=3), strike(0, 1), NOW),
                         [3, 3, 0, 1, 2, -1, 0, 0, -1])

    def test_behind_the_end_of_the_strikes(self):
        calls = [begin(strikes0=1, strikes1=0), strike(0, 1)]
        self.assertEqual(self.struck(*calls), 1)
        self.assertEqual(self.struck(*calls, objects(1, 0)), -1)
        self.assertEqual(self.struck(*calls, excuse(0)), -1)

    def test_behind_a_new_begin(self):
        self.assertEqual(self.struck(begin(), strike(0, 1), begin()), -1)


class Told(unittest.TestCase):
    def test_nothing_changes_by_it(self):
        calls = [begin(alternates=2), strike(0, 0), objects(1, 1), passes(1), excuse(1), passes(0),
                 passes(1), strike(0, 4), passes(1), passes(0), let(0), agree(2),
                 verdict(1, 0, 1), let(4), verdict(0, 0, 0)]
        mixed = []
        for call in calls:
            mixed += [call, NOW, BOX, FATES]
        self.assertEqual(ask(*mixed)[0::4], ask(*calls))

    def test_behind_each_of_lets_answers(self):
        calls = [sworn(panel=6, alternates=2), agree(2), let(4), NOW, let(0), NOW, let(1), NOW,
                 let(2), NOW]
        self.assertEqual(ask(*calls)[2:], [
            [0, 2, 0, 0, 0], [2, 2, 0, 0, 0, 5, 1, 2, -1],
            [1, 2, 0, 0, 0], [2, 2, 0, 0, 0, 5, 1, 2, -1],
            [2, 2, 0, 0, 0], [2, 2, 0, 0, 0, 5, 1, 2, -1],
            [2, 4, 0, 0, 0], [4, 4, 0, 0, 0, 5, 1, 2, -1]])


if __name__ == "__main__":
    unittest.main()
