import unittest

from talk import FARTHEST, IN_PHASE, NOW, agree, ask, begin, last, let, sworn, verdict


def least_told(*calls):
    return last(*calls, NOW)[7]


class Answer(unittest.TestCase):
    def test_is_what_was_agreed_and_nothing_behind_it(self):
        calls = [sworn(), agree(3), agree(2), agree(2), agree(1)]
        self.assertEqual(ask(*calls)[1:], [[3], [2], [2], [1]])

    def test_of_twelve_jurors(self):
        calls = [sworn(panel=20, seats=12), agree(12), agree(11), agree(1)]
        self.assertEqual(ask(*calls)[1:], [[12], [11], [1]])


class Refused(unittest.TestCase):
    def test_not_1_to_12_in_each_phase(self):
        for phase, calls in enumerate(IN_PHASE):
            for least in (0, -1, 13) + FARTHEST:
                with self.subTest(phase=phase, least=least):
                    self.assertEqual(last(*calls, agree(least)), [-1])

    def test_in_each_phase(self):
        for phase, answer in enumerate(([-3], [-3], [1], [-3], [-3])):
            with self.subTest(phase=phase):
                self.assertEqual(last(*IN_PHASE[phase], agree(1)), answer)

    def test_behind_a_verdict_of_them_all(self):
        self.assertEqual(last(sworn(), verdict(1, 1, 1), agree(2)), [-3])

    def test_more_than_the_least_is(self):
        for least, answer in ((2, [2]), (3, [3]), (4, [-5]), (12, [-5])):
            with self.subTest(least=least):
                self.assertEqual(last(sworn(), agree(least)), answer)

    def test_one_more_than_one_juror(self):
        self.assertEqual(ask(sworn(seats=1), agree(2), agree(1))[1:], [[-5], [1]])

    def test_never_more_again(self):
        calls = [sworn(), agree(2), agree(3), agree(1), agree(2), agree(3), agree(1)]
        self.assertEqual(ask(*calls)[1:], [[2], [-5], [1], [-5], [-5], [1]])

    def test_never_more_again_behind_somebody_let_go(self):
        calls = [sworn(alternates=0), agree(2), let(0), agree(3), agree(2), agree(1), agree(2)]
        self.assertEqual(ask(*calls)[3:], [[-5], [2], [1], [-5]])

    def test_changes_nothing(self):
        calls = [sworn(), agree(2)]
        for refused in (0, 13, 3, 12):
            with self.subTest(refused=refused):
                self.assertEqual(least_told(*calls, agree(refused)), 2)


class Least(unittest.TestCase):
    def test_is_told(self):
        self.assertEqual(least_told(sworn()), 3)
        self.assertEqual(least_told(sworn(), agree(2)), 2)
        self.assertEqual(least_told(sworn(), agree(2), agree(1)), 1)

    def test_a_jury_of_that_many_goes_on(self):
        calls = [sworn(panel=20, seats=4, alternates=0), agree(2), let(0), let(1), let(2)]
        self.assertEqual(ask(*calls)[2:], [[2, 2, 0, 0, 0], [2, 2, 0, 0, 0], [2, 4, 0, 0, 0]])

    def test_agreed_to_as_many_as_there_are_changes_nothing(self):
        calls = [sworn(alternates=0), agree(3), let(0)]
        self.assertEqual(last(*calls), [2, 4, 0, 0, 0])

    def test_one_juror_may_be_enough_and_none_is_not(self):
        calls = [sworn(alternates=0), agree(1), let(2), let(0), let(1)]
        self.assertEqual(ask(*calls)[2:], [[2, 2, 0, 0, 0], [2, 2, 0, 0, 0], [2, 4, 0, 0, 0]])

    def test_agreed_to_behind_somebody_let_go(self):
        calls = [sworn(alternates=0), agree(2), let(0), agree(1), let(1), let(2)]
        self.assertEqual(ask(*calls)[4:], [[2, 2, 0, 0, 0], [2, 4, 0, 0, 0]])

    def test_alternates_come_first_all_the_same(self):
        calls = [sworn(alternates=1), agree(2), let(0), let(1), let(2)]
        self.assertEqual(ask(*calls)[2:], [[1, 2, 0, 0, 0], [2, 2, 0, 0, 0], [2, 4, 0, 0, 0]])

    def test_is_gone_with_the_picking(self):
        calls = [sworn(alternates=0), agree(1), sworn(alternates=0)]
        self.assertEqual(last(*calls, agree(3)), [3])
        self.assertEqual(last(*calls, let(0)), [2, 4, 0, 0, 0])
        self.assertEqual(least_told(*calls), 3)

    def test_stays_behind_a_begin_that_is_refused(self):
        calls = [sworn(alternates=0), agree(2), begin(panel=0)]
        self.assertEqual(ask(*calls, agree(3), let(0))[3:], [[-5], [2, 2, 0, 0, 0]])


if __name__ == "__main__":
    unittest.main()
