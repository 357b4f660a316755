import os
import subprocess
import sys
import unittest

from jurypick.picking import answers
from talk import ask, begin, excuse, let, objects, passes, strike

ROOT = os.path.dirname(os.path.dirname(os.path.abspath(__file__)))


class Lists(unittest.TestCase):
    def test_each_answer_has_how_many_numbers_it_has_ahead_of_it(self):
        calls = [1, 10, 3, 1, 2, 2, 1, 0, 2, 0, 1,
                 2, 9,
                 2, 0,
                 3, 0, 1,
                 5, 1, 1,
                 4, 1,
                 6, 0]
        self.assertEqual(answers(calls), [
            5, 0, 0, 0, 2, 2,
            1, -4,
            5, 0, 0, 0, 2, 2,
            5, 1, 0, 1, 1, 2,
            5, 1, 0, 1, 1, 2,
            5, 0, 0, 0, 1, 2,
            1, -3])

    def test_a_row_of_twenty_and_an_empty_one_are_read(self):
        calls = [1, 10, 3, 1, 2, 2, 1, 0, 20] + [6] * 20 + [1, 10, 3, 1, 2, 2, 1, 0, 0, 4, 1]
        self.assertEqual(answers(calls), [1, -1, 1, -1, 1, -3])

    def test_150_calls(self):
        calls = begin(panel=60, strikes0=10, strikes1=10) + [2, 99] * 148 + [3, 0, 0]
        answered = answers(calls)
        self.assertEqual(answered, [5, 0, 0, 0, 10, 10] + [1, -1] * 148 + [5, 0, 0, 1, 9, 10])

    def test_whole_numbers_only(self):
        calls = begin() + strike(0, 1) + objects(1, 1) + passes(1) + excuse(0) + let(0)
        answered = answers(calls)
        self.assertIs(list, answered.__class__)
        for number in answered:
            self.assertIs(int, number.__class__)


class Watched(list):
    """A list that refuses every change."""

    def refuse(self, *others):
        raise AssertionError("what was handed in is changed")

    append = clear = extend = insert = pop = remove = reverse = sort = refuse
    __setitem__ = __delitem__ = __iadd__ = __imul__ = refuse


class HandedIn(unittest.TestCase):
    calls = (begin(uses_up=1, alternates=2) + begin(turns=()) + strike(0, 1) + objects(1, 1)
             + strike(1, 0) + excuse(2) + passes(0) + passes(0) + strike(0, 3) + strike(1, 4)
             + objects(0, 1) + let(0) + let(4) + let(1) + let(1) + begin() + strike(0, 0))

    def test_is_the_same_behind_as_ahead(self):
        calls = list(self.calls)
        answers(calls)
        self.assertEqual(calls, self.calls)

    def test_is_not_changed_for_a_while_either(self):
        self.assertEqual(answers(Watched(self.calls)), answers(list(self.calls)))

    def test_what_is_given_back_is_another_list_each_time(self):
        first = answers(self.calls)
        kept = list(first)
        first.clear()
        self.assertEqual(answers(self.calls), kept)


class NothingIsKept(unittest.TestCase):
    def test_a_picking_ends_with_its_list(self):
        ask(begin(), strike(0, 0))
        self.assertEqual(ask(objects(1, 1), passes(1), excuse(1), let(0)),
                         [[-3], [-3], [-1], [-1]])

    def test_the_same_list_answers_the_same(self):
        calls = [begin(), strike(0, 0), objects(1, 1), passes(1), passes(0), let(0)]
        first = ask(*calls)
        ask(begin(panel=60, uses_up=1), passes(0))
        self.assertEqual(ask(*calls), first)


class Quiet(unittest.TestCase):
    def test_nothing_is_printed(self):
        code = "from jurypick.picking import answers; answers([4, 0])"
        done = subprocess.run([sys.executable, "-B", "-c", code], cwd=ROOT,
                              capture_output=True, check=True)
        self.assertEqual((done.stdout, done.stderr), (b"", b""))


if __name__ == "__main__":
    unittest.main()
