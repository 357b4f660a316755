import os
import subprocess
import sys
import unittest

from jurypick.picking import answers
from talk import (BOX, FATES, NOW, agree, ask, begin, excuse, let, objects, passes, strike,
                  sworn, verdict)

ROOT = os.path.dirname(os.path.dirname(os.path.abspath(__file__)))


class Lists(unittest.TestCase):
    def test_each_answer_has_how_many_numbers_it_has_ahead_of_it(self):
        calls = [1, 10, 3, 1, 2, 2, 1, 0, 2, 0, 1,
                 2, 9,
                 2, 0,
                 3, 0, 1,
                 5, 1, 1,
                 4, 1,
                 6, 0]
        self.assertEqual(answers(calls), [
            5, 0, 0, 0, 2, 2,
            1, -4,
            5, 0, 0, 0, 2, 2,
            5, 1, 0, 1, 1, 2,
            5, 1, 0, 1, 1, 2,
            5, 0, 0, 0, 1, 2,
            1, -3])

    def test_the_calls_behind_the_oath(self):
        calls = [1, 5, 2, 1, 0, 0, 0, 0, 2, 1, 0,
                 9,
                 10,
                 11,
                 7, 1,
                 8, 2, 0, 1,
                 8, 0,
                 8, 2, 1, 1]
        self.assertEqual(answers(calls), [
            5, 0, 2, 0, 0, 0,
            9, 2, 2, 0, 0, 0, 3, 2, 2, -1,
            4, 2, 0, 1, 2,
            6, 5, 1, 1, 5, 0, 0,
            1, 1,
            5, 2, 2, 0, 0, 0,
            1, -4,
            5, 1, 4, 0, 0, 0])

    def test_a_list_of_says_of_twenty_and_an_empty_one_are_read(self):
        self.assertEqual(answers([8, 20] + [11] * 20 + [8, 0, 11] + [8, 20] + [1] * 20 + [10]),
                         [1, -1, 1, -3, 1, 0, 1, -3, 1, 0])

    def test_each_question_as_the_only_call(self):
        self.assertEqual(answers([9]), [9, 4, 4, 0, 0, 0, -1, 0, 0, -1])
        self.assertEqual(answers([10]), [1, 0])
        self.assertEqual(answers([11]), [1, 0])

    def test_a_row_of_twenty_and_an_empty_one_are_read(self):
        calls = [1, 10, 3, 1, 2, 2, 1, 0, 20] + [6] * 20 + [1, 10, 3, 1, 2, 2, 1, 0, 0, 4, 1]
        self.assertEqual(answers(calls), [1, -1, 1, -1, 1, -3])

    def test_150_calls(self):
        calls = begin(panel=60, strikes0=10, strikes1=10) + [2, 99] * 148 + [3, 0, 0]
        answered = answers(calls)
        self.assertEqual(answered, [5, 0, 0, 0, 10, 10] + [1, -1] * 148 + [5, 0, 0, 1, 9, 10])

    def test_150_calls_of_all_kinds(self):
        course = [NOW, begin(), FATES, strike(0, 0), BOX, objects(1, 1), excuse(1), passes(1),
                  passes(0), NOW, strike(0, 4), BOX, passes(1), passes(1), agree(2), verdict(1, 0),
                  verdict(0, 1, 1), let(5), let(0), FATES, let(2), NOW, verdict(1, 1), BOX, FATES]
        first = [
            [4, 4, 0, 0, 0, -1, 0, 0, -1], [0, 0, 0, 2, 2], [10, 1, 1, 1, 0, 0, 0, 0, 0, 0, 0],
            [0, 0, 1, 1, 2], [3, 3, 1, 2], [1, 0, 1, 1, 2], [1, 0, 1, 1, 2], [0, 0, 0, 1, 2],
            [0, 1, 0, 1, 1], [1, 1, 0, 1, 1, 5, 5, 0, -1], [0, 1, 1, 0, 1], [1, 5, 0, 3, 2],
            [0, 1, 1, 0, 1], [0, 2, 0, 0, 1], [2], [-4], [2, 2, 0, 0, 1], [0, 2, 0, 0, 1],
            [2, 2, 0, 0, 1], [10, 6, 2, 1, 1, 3, 6, 0, 0, 0, 0], [2, 4, 0, 0, 1],
            [4, 4, 0, 0, 1, 6, 4, 2, -1], [-3], [1, 3], [10, 6, 2, 6, 1, 3, 6, 0, 0, 0, 0]]
        self.assertEqual(ask(*course), first)
        # Behind another course the first now tells how that one ended.
        again = [first[21]] + first[1:]
        self.assertEqual(len(course * 6), 150)
        self.assertEqual(ask(*course * 6), first + again * 5)

    def test_whole_numbers_only(self):
        calls = (begin() + strike(0, 1) + objects(1, 1) + passes(1) + excuse(0) + let(0) + NOW
                 + BOX + FATES + sworn() + agree(2) + verdict(0, 1, 1) + NOW + BOX + FATES
                 + verdict(1, 1, 1))
        answered = answers(calls)
        self.assertIs(list, answered.__class__)
        for number in answered:
            self.assertIs(int, number.__class__)


class Watched(list):
    """A list that refuses every change."""

    def refuse(self, *others):
        raise AssertionError("what was handed in is changed")

    append = clear = extend = insert = pop = remove = reverse = sort = refuse
    __setitem__ = __delitem__ = __iadd__ = __imul__ = refuse


class HandedIn(unittest.TestCase):
    calls = (begin(uses_up=1, alternates=2) + begin(turns=()) + strike(0, 1) + objects(1, 1)
             + strike(1, 0) + excuse(2) + passes(0) + passes(0) + strike(0, 3) + strike(1, 4)
             + objects(0, 1) + let(0) + let(4) + let(1) + let(1) + NOW + BOX + FATES
             + sworn(alternates=0) + agree(2) + let(1) + verdict(1, 0) + verdict(2, 0)
             + verdict(1) + BOX + FATES + verdict(0, 0) + NOW + begin() + strike(0, 0))

    def test_is_the_same_behind_as_ahead(self):
        calls = list(self.calls)
        answers(calls)
        self.assertEqual(calls, self.calls)

    def test_is_not_changed_for_a_while_either(self):
        self.assertEqual(answers(Watched(self.calls)), answers(list(self.calls)))

    def test_what_is_given_back_is_another_list_each_time(self):
        first = answers(self.calls)
        kept = list(first)
        first.clear()
        self.assertEqual(answers(self.calls), kept)


class NothingIsKept(unittest.TestCase):
    def test_a_picking_ends_with_its_list(self):
        ask(begin(), strike(0, 0))
        self.assertEqual(ask(objects(1, 1), passes(1), excuse(1), let(0)),
                         [[-3], [-3], [-1], [-1]])
        ask(sworn(), agree(2))
        self.assertEqual(ask(NOW, BOX, FATES, agree(1), verdict(1, 1, 1)),
                         [[4, 4, 0, 0, 0, -1, 0, 0, -1], [0], [0], [-3], [-3]])

    def test_the_same_list_answers_the_same(self):
        calls = [begin(), strike(0, 0), objects(1, 1), passes(1), passes(0), let(0), NOW, BOX,
                 FATES, sworn(alternates=0), agree(2), let(1), NOW, BOX, FATES, verdict(1, 1)]
        first = ask(*calls)
        ask(begin(panel=60, uses_up=1), passes(0))
        self.assertEqual(ask(*calls), first)


class Quiet(unittest.TestCase):
    def test_nothing_is_printed(self):
        code = "from jurypick.picking import answers; answers([4, 0])"
        done = subprocess.run([sys.executable, "-B", "-c", code], cwd=ROOT,
                              capture_output=True, check=True)
        self.assertEqual((done.stdout, done.stderr), (b"", b""))


if __name__ == "__main__":
    unittest.main()
