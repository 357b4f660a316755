import unittest

from talk import (BOX, FARTHEST, FATES, IN_PHASE, NOW, agree, ask, begin, excuse, last, let,
                  objects, passes, strike, verdict)

WRONG_SIDES = (-1, 2) + FARTHEST
NO_PERSONS = (-1, 10) + FARTHEST
SWORN, TOO_FEW, OVER = IN_PHASE[2:]


class Wrong(unittest.TestCase):
    """-1 comes first, whatever the phase is and whatever else applies."""

    ahead = {"nothing": [], "jury": [begin()], "turn of side 1": [begin(turns=(1, 0))],
             "struck": [begin(), strike(0, 0)],
             "alternates": [begin(strikes0=0, strikes1=0)],
             "sworn": SWORN, "too few": TOO_FEW, "over": OVER}

    def check(self, call):
        for name, calls in self.ahead.items():
            with self.subTest(ahead=name, call=call):
                self.assertEqual(last(*calls, call), [-1])

    def test_no_such_person(self):
        for who in NO_PERSONS:
            self.check(excuse(who))
            self.check(strike(0, who))
            self.check(strike(1, who))
            self.check(let(who))

    def test_no_such_side(self):
        for side in WRONG_SIDES:
            self.check(strike(side, 0))
            self.check(passes(side))
            self.check(objects(side, 0))
            self.check(objects(side, 1))

    def test_neither_upheld_nor_not(self):
        for upheld in WRONG_SIDES:
            self.check(objects(0, upheld))
            self.check(objects(1, upheld))

    def test_no_least_there_could_be(self):
        for least in (-1, 0, 13) + FARTHEST:
            self.check(agree(least))

    def test_neither_1_nor_0(self):
        for word in WRONG_SIDES:
            self.check(verdict(word))
            self.check(verdict(0, 1, word))
            self.check(verdict(word, 1, 1))
            self.check(verdict(*[1] * 19, word))

    def test_everything_wrong(self):
        self.check(strike(2, 99))
        self.check(objects(2, 2))
        self.check(verdict(*[2] * 20))

    def test_the_panel_tells_who_there_is(self):
        for panel in (1, 2, 60):
            with self.subTest(panel=panel):
                calls = [begin(panel=panel, seats=1), excuse(panel), strike(0, panel),
                         let(panel), excuse(panel - 1)]
                refusals = [answer[0] for answer in ask(*calls)[1:]]
                self.assertEqual(refusals, [-1, -1, -1, 0 if panel == 1 else -4])


class AtTheBeginning(unittest.TestCase):
    def test_it_is_over_with_nobody(self):
        calls = [excuse(0), strike(0, 0), let(0), passes(0), passes(1), objects(0, 0),
                 objects(1, 1)]
        self.assertEqual(ask(*calls), [[-1], [-1], [-1], [-3], [-3], [-3], [-3]])

    def test_nothing_is_agreed_and_no_verdict_is_given(self):
        calls = [agree(0), agree(1), agree(12), agree(13), verdict(), verdict(1), verdict(2)]
        self.assertEqual(ask(*calls), [[-1], [-3], [-3], [-1], [-3], [-3], [-1]])


class Phase(unittest.TestCase):
    """-3 comes ahead of -4 and -5."""

    def test_phases_from_2_on_refuse(self):
        for name, calls in (("sworn", SWORN), ("too few", TOO_FEW), ("over", OVER)):
            for call in (excuse(0), excuse(1), strike(0, 1), strike(1, 1), passes(0),
                         passes(1), objects(0, 0), objects(1, 1)):
                with self.subTest(phase=name, call=call):
                    self.assertEqual(last(*calls, call), [-3])

    def test_let_is_refused_in_all_phases_but_2(self):
        jury = [begin()]
        alternates = [begin(strikes0=0, strikes1=0)]
        for calls in (jury, alternates, TOO_FEW, OVER):
            for who in (0, 1):
                with self.subTest(calls=calls, who=who):
                    self.assertEqual(last(*calls, let(who)), [-3])

    def test_agree_and_verdict_are_refused_in_all_phases_but_2(self):
        for phase in (0, 1, 3, 4):
            for call in (agree(1), agree(3), agree(4), agree(12), verdict(), verdict(1),
                         verdict(1, 1, 1), verdict(0, 0), verdict(*[0, 1] * 10)):
                with self.subTest(phase=phase, call=call):
                    self.assertEqual(last(*IN_PHASE[phase], call), [-3])

    def test_let_of_somebody_who_is_neither_is_refused_for_the_phase_first(self):
        self.assertEqual(last(begin(), let(9)), [-3])
        self.assertEqual(last(*SWORN, let(9)), [-4])


class TurnAheadOfSeat(unittest.TestCase):
    """Of strike -5 comes ahead of -4."""

    def test_not_that_sides_turn(self):
        calls = [begin(), strike(1, 9), strike(1, 0), strike(0, 9), strike(0, 0)]
        self.assertEqual(ask(*calls)[1:], [[-5], [-5], [-4], [0, 0, 1, 1, 2]])

    def test_strikes_are_over(self):
        calls = [begin(strikes0=1, strikes1=0), strike(0, 0), strike(0, 0), strike(0, 9),
                 strike(1, 9), strike(0, 1), excuse(9), excuse(0)]
        self.assertEqual(ask(*calls)[2:], [[-5], [-5], [-5], [-5], [-4], [-4]])

    def test_a_side_without_strikes(self):
        calls = [begin(strikes0=0), strike(0, 0), strike(0, 9), passes(0), strike(1, 9)]
        self.assertEqual(ask(*calls)[1:], [[-5], [-5], [-5], [-4]])


class Objecting(unittest.TestCase):
    """Of object -4 comes ahead of -5."""

    def test_nothing_may_be_objected_to(self):
        calls = [begin(), strike(0, 0), passes(1), objects(0, 1)]
        self.assertEqual(last(*calls), [-4])
        calls = [begin(), strike(0, 0), objects(1, 0), objects(0, 1)]
        self.assertEqual(last(*calls), [-4])

    def test_its_own_strike(self):
        self.assertEqual(last(begin(), strike(0, 0), objects(0, 1)), [-5])
        self.assertEqual(last(begin(turns=(1, 0)), strike(1, 0), objects(1, 0)), [-5])


class NothingChanges(unittest.TestCase):
    """The same calls answer the same with every kind of refusal put between them."""

    refused = [excuse(-1), excuse(59), strike(2, 0), strike(0, 60), strike(0, 59),
               strike(1, 59), passes(2), objects(2, 1), objects(0, 2), let(60), let(59),
               begin(panel=0), begin(turns=(0, 0)), agree(0), agree(12), verdict(),
               verdict(1), verdict(0, 0, 2), verdict(0, 0, 0, 0)]
    calls = [begin(panel=60, strikes0=2, strikes1=1, for_alternates=1, alternates=2),
             strike(0, 0), objects(1, 1), passes(1), excuse(1), strike(0, 2), objects(1, 0),
             passes(1), excuse(0), strike(1, 3), objects(0, 1),
             passes(0), strike(1, 7), excuse(6), strike(0, 9), objects(1, 0), let(4),
             agree(2), verdict(1, 1, 0), let(8), let(5), verdict(0, 0)]

    def test_between_all_calls(self):
        for call in self.refused:
            with self.subTest(refused=call):
                mixed = []
                for other in self.calls:
                    mixed += [other, call]
                answered = ask(*mixed)
                self.assertEqual(answered[0::2], ask(*self.calls))
                for answer in answered[1::2]:
                    self.assertEqual(len(answer), 1)
                    self.assertLess(answer[0], 0)

    def test_what_now_box_and_fates_tell(self):
        told = [NOW, BOX, FATES]
        for many in range(len(self.calls) + 1):
            for call in self.refused:
                with self.subTest(many=many, refused=call):
                    answered = ask(*self.calls[:many], *told, call, *told)[many:]
                    self.assertEqual(answered[:3], answered[4:])
                    self.assertEqual(len(answered[3]), 1)
                    self.assertLess(answered[3][0], 0)

    def test_those_calls_are_taken(self):
        self.assertGreaterEqual(min(answer[0] for answer in ask(*self.calls)), 0)


if __name__ == "__main__":
    unittest.main()
