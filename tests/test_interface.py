"""The interface: the form of what is handed in and given back, and what the function leaves alone."""

import contextlib
import inspect
import io
import sys
import unittest

import callslast.tree
from callslast.tree import answers
from lines import (ALL_FROM, BEGIN, BEST, DROP, GREATEST, MIXED, ROW, SIX, STAR, STATE, after, bound, by, call, could,
                   hours, join, lasts, near, ones, order, part, plan, quicker, run, short, way)


class Unchanging(list):
    """A list that can't be changed, not for a while either."""

    def refuse(self, *given):
        raise AssertionError("what is handed in was changed")

    __setitem__ = __delitem__ = __iadd__ = __imul__ = refuse
    append = extend = insert = pop = remove = clear = sort = reverse = refuse


def flat(calls):
    return [number for call in calls for number in call]


EVERYTHING = SIX + [DROP, join(1, 2), lasts(1, 9), hours(0), plan(3), order(2, 0), order(0, 0), by(0, 4), part(2, 0),
                    could(0, [0, 10, 1, 4, 8, 12]), could(3, [0, 0]), could(9, []), join(9, 9), lasts(0, 1),
                    part(3, 4), call(1, 0), call(3, 4), way(5, 3), bound(0), BEST, ALL_FROM, quicker(2, 20, 3),
                    quicker(1, 21, 0), quicker(0, 1, 0), short(1), ones(4), near(2), near(6), STATE, BEGIN, DROP, BEST,
                    ALL_FROM, STATE, bound(0), near(0)]


class Form(unittest.TestCase):
    def test_counts_stand_before_what_is_answered(self):
        self.assertEqual(answers([0]), [1, 0])
        self.assertEqual(answers([2]), [1, -11])
        self.assertEqual(answers([0, 1, 0, 5, 5, 0]), [1, 0, 1, 1, 3, 5, 0, 5])
        self.assertEqual(answers([0, 1, 0, 5, 6, 0, 0, 6, 0, 1]), [1, 0, 1, 1, 2, 1, 1, 1, 0])
        self.assertEqual(answers([0, 1, 0, 5, 7, 1, 2, 5, 0, 9, 0, 1]), [1, 0, 1, 1, 2, 1, 5, 2, 0, 5])
        self.assertEqual(answers([0, 8, 0, 0, 4, 0, 2, 3, 0, 1]), [1, 0, 1, 1, 1, 0, 1, -6, 1, -2])

    def test_a_row_of_times_is_read_to_its_end(self):
        # The times look like calls, and none of them is made.
        self.assertEqual(answers([0, 7, 0, 3, 1, 0, 1, 4, 0]), [1, 0, 1, -22, 1, 0])
        self.assertEqual(answers([0, 7, 0, 0, 4, 0]), [1, 0, 1, -22, 1, 0])
        self.assertEqual(answers([7, 0, 2, 0, 0, 4, 0]), [1, -11, 1, -11])
        self.assertEqual(answers([7, 0, 14] + [0] * 14 + [0]), [1, -11, 1, 0])
        self.assertEqual(answers([0, 7, GREATEST, 2, 2, 2, 4, 0]), [1, 0, 1, -2, 1, 0])

    def test_all_calls_are_read_to_their_end(self):
        # 0 -5- 1: call, way, bound, best, all_from, quicker, short, ones, near and state by their numbers.
        rest = [10, 0, 1, 11, 0, 1, 12, 0, 13, 14, 15, 1, 7, 0, 16, 0, 17, 0, 18, 0, 19]
        self.assertEqual(answers(rest + [0]), [1, -11] * 10 + [1, 0])
        self.assertEqual(answers([0, 1, 0, 5] + rest), [
            1, 0, 1, 1, 1, 5, 2, 5, 1, 2, 5, 1, 3, 5, 0, 1, 3, 2, 5, 5, 2, 7, 5, 2, 5, 5, 1, 1, 2, 1, 1, 3, 2, 0, 5])
        refused = [10, 0, 0, 11, 0, 9, 12, 9, 15, 1, 0, 0, 16, 9, 17, 9, 18, 9]
        self.assertEqual(answers([0, 1, 0, 5] + refused + [4, 0]),
                         [1, 0, 1, 1, 1, -22, 1, -2, 1, -2, 1, -22, 1, -2, 1, -2, 1, -2, 1, 5])

    def test_how_many_numbers_each_call_answers(self):
        asked = [BEGIN, join(0, 1), join(0, 1), DROP, lasts(1, 2), hours(0), plan(0), order(0, 0), could(0, [0, 2]),
                 by(0, 0), part(0, 1)]
        self.assertEqual([len(answer) for answer in run(*asked)], [1, 1, 1, 1, 1, 1, 3, 2, 2, 1, 2])
        asked = [call(0, 1), way(0, 4), bound(0), BEST, ALL_FROM, quicker(1, 9, 0), short(1), ones(0), near(2), STATE]
        self.assertEqual([len(answer) for answer in after(SIX, *asked)], [1, 2, 2, 3, 7, 2, 2, 1, 4, 11])

    def test_all_are_whole_numbers_in_a_list(self):
        given = answers(flat(EVERYTHING))
        self.assertIs(type(given), list)
        for number in given:
            self.assertIs(type(number), int)

    def test_only_the_first_number_of_a_refusal_is_below_0(self):
        for answer in run(*EVERYTHING):
            if answer[0] < 0:
                self.assertEqual(len(answer), 1)
            for number in answer[1:]:
                self.assertGreaterEqual(number, 0)

    def test_the_argument_is_called_as_told(self):
        self.assertEqual(list(inspect.signature(answers).parameters), ["calls"])
        self.assertEqual(answers(calls=[0]), [1, 0])


class LeftAlone(unittest.TestCase):
    def test_what_is_handed_in_is_the_same(self):
        calls = flat(EVERYTHING)
        before = list(calls)
        given = answers(calls)
        self.assertEqual(calls, before)
        self.assertEqual(answers(Unchanging(calls)), given)

    def test_what_is_given_back_is_new(self):
        calls = [0]
        first = answers(calls)
        first.append(9)
        self.assertEqual(answers(calls), [1, 0])
        self.assertEqual(calls, [0])

    def test_nothing_is_kept(self):
        given = answers(flat(EVERYTHING))
        self.assertEqual(answers(flat(EVERYTHING)), given)
        answers(flat(ROW))
        self.assertEqual(answers([4, 0]), [1, -11])
        self.assertEqual(answers([0, 4, 1]), [1, 0, 1, -2])

    def test_it_prints_nothing_and_reads_nothing(self):
        printed = io.StringIO()
        complained = io.StringIO()
        before = sys.stdin
        sys.stdin = None
        try:
            with contextlib.redirect_stdout(printed), contextlib.redirect_stderr(complained):
                answers(flat(EVERYTHING))
        finally:
            sys.stdin = before
        self.assertEqual((printed.getvalue(), complained.getvalue()), ("", ""))

    def test_it_imports_nothing(self):
        self.assertNotIn("import ", inspect.getsource(callslast.tree))


class Long(unittest.TestCase):
    def test_400_calls(self):
        for twelve, p in ((ROW, 0), (ROW, 11), (STAR, 5)):
            asked = [plan(p)] * 388
            self.assertEqual(after(twelve, *asked), after(twelve, plan(p)) * 388)

    def test_400_of_each_call_that_asks(self):
        for made in (hours(7), order(0, 0), by(9, 20), part(0, 2), call(9, 11), way(10, 11), bound(0), BEST, ALL_FROM,
                     quicker(7, 20, 0), short(3), ones(0), near(3), STATE):
            self.assertEqual(after(MIXED, *[made] * 388), after(MIXED, made) * 388, made)

    def test_400_rows_of_14(self):
        self.assertEqual(run(BEGIN, *[could(0, [GREATEST] * 14)] * 399), [[0]] + [[-22]] * 399)

    def test_400_begins_joins_and_drops(self):
        asked = [BEGIN, join(0, 3), DROP, DROP] * 100
        self.assertEqual(run(*asked), [[0], [1], [1], [-6]] * 100)

    def test_it_nests_little(self):
        calls = flat(ROW + [plan(0), plan(11), could(0, [0, 1, 3, 6, 10, 15, 21, 28, 36, 45, 55, 66]), way(0, 11),
                            bound(0), BEST, ALL_FROM, quicker(11, 20, 0), short(11), ones(0), near(5), STATE] * 30)
        given = answers(calls)
        before = sys.getrecursionlimit()
        sys.setrecursionlimit(len(inspect.stack()) + 120)
        try:
            again = answers(calls)
        finally:
            sys.setrecursionlimit(before)
        self.assertEqual(again, given)


if __name__ == "__main__":
    unittest.main()
