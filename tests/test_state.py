"""What no answer of the calls shows yet, seen in the state itself."""

import random
import unittest

from jurypick.picking import answer_call
from jurypick.reader import Reader
from jurypick.state import Picking
from talk import begin, excuse, let, objects, passes, strike


def state_after(*calls):
    picking = Picking()
    for call in calls:
        answer_call(picking, Reader(call))
    return picking


class Places(unittest.TestCase):
    def test_fates(self):
        picking = state_after(begin(alternates=2), strike(0, 0), strike(1, 1), excuse(2),
                              passes(0), passes(1))
        self.assertEqual(picking.fates, [3, 4, 2, 1, 1, 1, 1, 1, 0, 0])
        picking = state_after(begin(alternates=2), strike(0, 0), strike(1, 1), excuse(2),
                              passes(0), passes(1), passes(0), passes(1), let(7), let(4))
        self.assertEqual(picking.fates, [3, 4, 2, 1, 6, 1, 1, 6, 0, 0])

    def test_alternates_fates(self):
        picking = state_after(begin(alternates=2, strikes0=0, strikes1=0, for_alternates=0))
        self.assertEqual(picking.fates, [1, 1, 1, 5, 5, 0, 0, 0, 0, 0])

    def test_an_upheld_objection_puts_both_back(self):
        picking = state_after(begin(), strike(0, 1), objects(1, 1))
        self.assertEqual(picking.box, [0, 1, 2])
        self.assertEqual(picking.fates, [1, 1, 1, 0, 0, 0, 0, 0, 0, 0])

    def test_the_jury_is_by_its_seats(self):
        picking = state_after(begin(), strike(0, 0), strike(1, 2), passes(0), passes(1))
        self.assertEqual(picking.jury, [3, 1, 4])

    def test_an_alternate_takes_the_place_of_who_was_let_go(self):
        picking = state_after(begin(alternates=2, strikes0=0, strikes1=0, for_alternates=0),
                              let(1))
        self.assertEqual((picking.jury, picking.alternates), ([0, 3, 2], [4]))

    def test_a_box_that_is_not_full_is_filled_from_the_least_seat_on(self):
        picking = state_after(begin(panel=5, alternates=4, strikes0=0, strikes1=0))
        self.assertEqual((picking.box, picking.jury), ([3, 4, -1, -1], [0, 1, 2]))


class Kept(unittest.TestCase):
    def test_at_the_beginning_it_is_over_with_nobody(self):
        picking = Picking()
        self.assertEqual(picking.standing(), [4, 0, 0, 0])
        self.assertEqual((picking.fates, picking.jury, picking.alternates), ([], [], []))
        self.assertFalse(picking.may_object())

    def test_the_least_is_told_by_the_oath_and_ends_with_the_picking(self):
        sworn = [begin(strikes0=0, strikes1=0, for_alternates=0)]
        self.assertEqual(state_after(*sworn).least, 3)
        picking = state_after(*sworn, begin())
        self.assertEqual((picking.least, picking.jury, picking.alternates), (0, [], []))

    def test_no_strike_may_be_objected_to_when_the_panel_does_not_suffice(self):
        picking = state_after(begin(panel=3), strike(0, 1))
        self.assertFalse(picking.may_object())


class AlwaysHolds(unittest.TestCase):
    """What the document promises of every picking, over many courses of calls."""

    def some_call(self, numbers):
        kinds = [(excuse, 1), (strike, 9), (passes, 2), (objects, 3), (let, 2)]
        call = numbers.choices([pair[0] for pair in kinds], [pair[1] for pair in kinds])[0]
        if call in (excuse, let):
            return call(numbers.randint(0, 20))
        if call == passes:
            return call(numbers.randint(0, 1))
        if call == objects:
            return call(numbers.randint(0, 1), numbers.randint(0, 1))
        return call(numbers.randint(0, 1), numbers.randint(0, 20))

    def check(self, picking, allowed):
        placed = picking.jury + picking.alternates
        placed = placed + [who for who in picking.box if who != -1]
        self.assertEqual(len(placed), len(set(placed)))
        seated = [who for who, fate in enumerate(picking.fates) if fate in (1, 5)]
        self.assertEqual(sorted(placed), seated)
        self.assertEqual([picking.fates[who] for who in picking.alternates],
                         [5] * len(picking.alternates))
        for side in (0, 1):
            self.assertGreaterEqual(picking.left[side], 0)
            self.assertLessEqual(picking.fates.count(3 + side), allowed[side])
        if picking.phase in (0, 1):
            self.assertNotIn(-1, picking.box)
            if not picking.strikes_over():
                self.assertGreater(picking.left[picking.turn()], 0)
            else:
                self.assertTrue(picking.may_object())
        if picking.phase == 2:
            self.assertGreaterEqual(len(picking.jury), picking.least)

    def test_over_many_courses(self):
        reached = [0] * 5
        for seed in range(1500):
            numbers = random.Random(seed)
            chosen = [numbers.randint(0, most) for most in (4, 3, 3, 2, 1)]
            turns = [0, 1] + [numbers.randint(0, 1) for more in range(numbers.randint(0, 3))]
            numbers.shuffle(turns)
            picking = state_after(begin(numbers.randint(8, 20), numbers.randint(1, 4),
                                        *chosen, turns=turns))
            allowed = [chosen[1] + chosen[3], chosen[2] + chosen[3]]
            for step in range(40):
                reached[picking.phase] += 1
                with self.subTest(seed=seed, step=step):
                    self.check(picking, allowed)
                answer_call(picking, Reader(self.some_call(numbers)))
        for phase in range(5):
            self.assertGreater(reached[phase], 100)


if __name__ == "__main__":
    unittest.main()
