import unittest

from talk import (BOX, FARTHEST, FATES, IN_PHASE, NOW, agree, ask, begin, excuse, last, let,
                  objects, passes, strike, sworn, verdict)


class Alike(unittest.TestCase):
    def test_all_say_1(self):
        self.assertEqual(last(sworn(), verdict(1, 1, 1)), [1, 4, 0, 0, 0])

    def test_all_say_0(self):
        self.assertEqual(last(sworn(), verdict(0, 0, 0)), [0, 4, 0, 0, 0])

    def test_of_one_juror(self):
        for word in (0, 1):
            with self.subTest(word=word):
                self.assertEqual(last(sworn(seats=1), verdict(word)), [word, 4, 0, 0, 0])

    def test_of_twelve_jurors(self):
        for word in (0, 1):
            with self.subTest(word=word):
                calls = [sworn(panel=12, seats=12, alternates=0), verdict(*[word] * 12)]
                self.assertEqual(last(*calls), [word, 4, 0, 0, 0])

    def test_strikes_left_are_told_as_they_were(self):
        calls = [begin(strikes0=0, strikes1=0, for_alternates=3), strike(0, 3), passes(1),
                 passes(0), verdict(0, 0, 0)]
        self.assertEqual(last(*calls), [0, 4, 0, 2, 3])

    def test_turn_is_0_whatever_the_row_begins_with(self):
        calls = [begin(strikes0=0, strikes1=0, for_alternates=2, turns=(1, 0)), passes(1),
                 passes(0), verdict(1, 1, 1)]
        self.assertEqual(last(*calls), [1, 4, 0, 2, 2])

    def test_nothing_is_done_behind_it(self):
        calls = [sworn(), verdict(1, 1, 1), verdict(1, 1, 1), verdict(0, 0, 0), agree(1), let(0),
                 let(3), excuse(0), strike(0, 0), passes(0), objects(0, 1)]
        self.assertEqual(ask(*calls)[2:], [[-3]] * 9)

    def test_who_sits_where_is_told_behind_it_too(self):
        calls = [sworn(panel=6, alternates=2), let(1), verdict(0, 0, 0), NOW, BOX, FATES]
        self.assertEqual(ask(*calls)[3:], [
            [4, 4, 0, 0, 0, 5, 1, 3, -1], [3, 0, 3, 2, 4], [6, 1, 6, 1, 1, 5, 0]])

    def test_a_new_picking_may_begin_behind_it(self):
        self.assertEqual(last(sworn(), verdict(1, 1, 1), begin()), [0, 0, 0, 2, 2])


class Divided(unittest.TestCase):
    def test_goes_on_whoever_says_otherwise(self):
        for says in ((1, 1, 0), (1, 0, 1), (0, 1, 1), (0, 0, 1), (0, 1, 0), (1, 0, 0)):
            with self.subTest(says=says):
                self.assertEqual(last(sworn(), verdict(*says)), [2, 2, 0, 0, 0])

    def test_one_of_twelve(self):
        for word in (0, 1):
            with self.subTest(word=word):
                calls = [sworn(panel=12, seats=12, alternates=0),
                         verdict(*[word] * 11, 1 - word)]
                self.assertEqual(last(*calls), [2, 2, 0, 0, 0])

    def test_changes_nothing(self):
        told = [NOW, BOX, FATES]
        answered = ask(sworn(), agree(2), *told, verdict(1, 0, 1), *told)
        self.assertEqual(answered[2:5], answered[6:])

    def test_another_verdict_may_end_it(self):
        calls = [sworn(), verdict(1, 0, 1), verdict(0, 0, 1), verdict(0, 0, 0)]
        self.assertEqual(ask(*calls)[1:], [[2, 2, 0, 0, 0], [2, 2, 0, 0, 0], [0, 4, 0, 0, 0]])


class HowMany(unittest.TestCase):
    def test_not_as_many_as_jurors(self):
        for many in (0, 1, 2, 4, 5, 12, 13, 20):
            for word in (0, 1):
                with self.subTest(many=many, word=word):
                    calls = [sworn(), verdict(*[word] * many), verdict(1, 1, 1)]
                    self.assertEqual(ask(*calls)[1:], [[-4], [1, 4, 0, 0, 0]])

    def test_alternates_have_no_say(self):
        calls = [sworn(alternates=2), verdict(1, 1, 1, 1, 1), verdict(1, 1, 1)]
        self.assertEqual(ask(*calls)[1:], [[-4], [1, 4, 0, 0, 0]])

    def test_behind_a_juror_replaced(self):
        calls = [sworn(alternates=2), let(0), verdict(1, 1), verdict(1, 1, 1, 1),
                 verdict(1, 1, 1)]
        self.assertEqual(ask(*calls)[2:], [[-4], [-4], [1, 4, 0, 0, 0]])

    def test_behind_an_alternate_let_go(self):
        calls = [sworn(alternates=2), let(4), verdict(0, 0), verdict(0, 0, 0)]
        self.assertEqual(ask(*calls)[2:], [[-4], [0, 4, 0, 0, 0]])

    def test_behind_a_jury_that_is_one_fewer(self):
        calls = [sworn(alternates=0), agree(2), let(1), verdict(0, 0, 0), verdict(0),
                 verdict(0, 1), verdict(0, 0)]
        self.assertEqual(ask(*calls)[3:], [[-4], [-4], [2, 2, 0, 0, 0], [0, 4, 0, 0, 0]])

    def test_the_least_alone_changes_nothing(self):
        calls = [sworn(), agree(2), verdict(1, 1), verdict(1, 1, 1)]
        self.assertEqual(ask(*calls)[2:], [[-4], [1, 4, 0, 0, 0]])


class Refused(unittest.TestCase):
    def test_neither_0_nor_1_in_each_phase(self):
        for phase, calls in enumerate(IN_PHASE):
            for word in (2, -1) + FARTHEST:
                for says in ((word,), (word, 1, 1), (1, word, 1), (0, 0, word), (word,) * 3,
                             (1, 1, 1, word), (word,) * 20):
                    with self.subTest(phase=phase, says=says):
                        self.assertEqual(last(*calls, verdict(*says)), [-1])

    def test_in_each_phase(self):
        for says, sworn_answer in (((1, 1, 1), [1, 4, 0, 0, 0]), ((0, 0, 0), [0, 4, 0, 0, 0]),
                                   ((1, 0, 1), [2, 2, 0, 0, 0])):
            for phase, answer in enumerate(([-3], [-3], sworn_answer, [-3], [-3])):
                with self.subTest(phase=phase, says=says):
                    self.assertEqual(last(*IN_PHASE[phase], verdict(*says)), answer)

    def test_an_empty_list_in_each_phase(self):
        for phase, answer in enumerate(([-3], [-3], [-4], [-3], [-3])):
            with self.subTest(phase=phase):
                self.assertEqual(last(*IN_PHASE[phase], verdict()), answer)

    def test_what_stands_behind_it_is_still_read_right(self):
        calls = [verdict(*[9] * 20), verdict(), sworn(), verdict(1, 0), verdict(7), NOW]
        self.assertEqual(ask(*calls), [[-1], [-3], [0, 2, 0, 0, 0], [-4], [-1],
                                       [2, 2, 0, 0, 0, 4, 6, 3, -1]])


if __name__ == "__main__":
    unittest.main()
