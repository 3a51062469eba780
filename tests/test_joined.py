"""Point 1: near, call, state."""

import unittest

from lines import (ALIKE, BEGIN, DROP, MIXED, ROW, SIX, STAR, STATE, after, call, grown, hours, join, lasts, near, plan,
                   quicker)


class Near(unittest.TestCase):
    def test_how_many_then_these_rising(self):
        self.assertEqual(after(SIX, *[near(p) for p in range(6)]),
                         [[2, 1, 2], [2, 0, 5], [3, 0, 3, 4], [1, 2], [1, 2], [1, 1]])

    def test_rising_however_much_their_parts_need(self):
        # From 3 the order of calling is 0, 9, 8.
        self.assertEqual(after(MIXED, near(0), near(1), near(3), near(6), near(11)),
                         [[3, 1, 2, 3], [3, 0, 4, 5], [3, 0, 8, 9], [2, 2, 7], [1, 9]])

    def test_one_and_two(self):
        self.assertEqual(after(grown(), near(0)), [[0]])
        self.assertEqual(after(grown((0, 17)), near(0), near(1)), [[1, 1], [1, 0]])

    def test_a_row_of_twelve(self):
        self.assertEqual(after(ROW, *[near(p) for p in range(12)]),
                         [[1, 1]] + [[2, p - 1, p + 1] for p in range(1, 11)] + [[1, 10]])

    def test_a_star_of_twelve(self):
        self.assertEqual(after(STAR, *[near(p) for p in range(12)]),
                         [[11, 1, 2, 3, 4, 5, 6, 7, 8, 9, 10, 11]] + [[1, 0]] * 11)

    def test_after_join_and_drop(self):
        asked = [join(0, 1), near(0), near(6), DROP, near(0), DROP, near(1), join(3, 8), near(3), near(5)]
        self.assertEqual(after(SIX, *asked),
                         [[6], [3, 1, 2, 6], [1, 0], [6], [2, 1, 2], [5], [1, 0], [5], [2, 2, 5], [1, 3]])


class Call(unittest.TestCase):
    def test_both_ways_round(self):
        for p, q, n in ((0, 1, 5), (0, 2, 1), (2, 3, 3), (2, 4, 4), (1, 5, 2)):
            self.assertEqual(after(SIX, call(p, q), call(q, p)), [[n], [n]])

    def test_two(self):
        self.assertEqual(after(grown((0, 17)), call(0, 1), call(1, 0)), [[17], [17]])
        self.assertEqual(after(grown((0, 1)), call(0, 1)), [[1]])
        self.assertEqual(after(grown((0, 20)), call(1, 0)), [[20]])

    def test_twelve(self):
        self.assertEqual(after(ROW, *[call(p, p - 1) for p in range(1, 12)]), [[n] for n in range(1, 12)])
        self.assertEqual(after(STAR, *[call(0, p) for p in range(1, 12)]), [[n] for n in range(1, 12)])
        self.assertEqual(after(MIXED, call(9, 11), call(10, 4), call(3, 9)), [[11], [10], [1]])

    def test_all_calls_alike(self):
        self.assertEqual(after(ALIKE, call(0, 1), call(2, 0), call(0, 3), call(4, 1), call(2, 5)), [[5]] * 5)

    def test_after_lasts_and_after_join(self):
        asked = [lasts(4, 19), call(2, 4), call(4, 2), call(2, 3), DROP, join(3, 7), call(3, 5), call(1, 5)]
        self.assertEqual(after(SIX, *asked), [[4], [19], [19], [3], [5], [5], [7], [-22]])


class State(unittest.TestCase):
    def test_to_whom_each_was_joined_then_how_long_each_call_lasts(self):
        self.assertEqual(after(SIX, STATE), [[6, 0, 0, 2, 2, 1, 5, 1, 3, 4, 2]])
        self.assertEqual(after(grown((0, 7), (1, 3)), STATE), [[3, 0, 1, 7, 3]])

    def test_one_and_two(self):
        self.assertEqual(after(grown(), STATE), [[1]])
        self.assertEqual(after(grown((0, 17)), STATE), [[2, 0, 17]])

    def test_twelve(self):
        rising = [1, 2, 3, 4, 5, 6, 7, 8, 9, 10, 11]
        self.assertEqual(after(ROW, STATE), [[12, 0, 1, 2, 3, 4, 5, 6, 7, 8, 9, 10] + rising])
        self.assertEqual(after(STAR, STATE), [[12] + [0] * 11 + rising])
        self.assertEqual(after(MIXED, STATE),
                         [[12, 0, 0, 0, 1, 1, 2, 6, 3, 3, 4, 9, 2, 3, 4, 5, 6, 7, 8, 9, 1, 10, 11]])

    def test_after_join(self):
        self.assertEqual(after(SIX, join(4, 20), STATE), [[6], [7, 0, 0, 2, 2, 1, 4, 5, 1, 3, 4, 2, 20]])

    def test_after_drop(self):
        self.assertEqual(after(SIX, DROP, STATE, DROP, STATE), [[5], [5, 0, 0, 2, 2, 5, 1, 3, 4], [4],
                                                               [4, 0, 0, 2, 5, 1, 3]])
        self.assertEqual(after(grown((0, 2)), DROP, STATE, DROP, STATE), [[1], [1], [-6], [1]])

    def test_after_lasts(self):
        self.assertEqual(after(SIX, lasts(3, 13), STATE, lasts(5, 1), STATE),
                         [[3], [6, 0, 0, 2, 2, 1, 5, 1, 13, 4, 2], [2], [6, 0, 0, 2, 2, 1, 5, 1, 13, 4, 1]])

    def test_after_a_second_begin(self):
        self.assertEqual(after(SIX, BEGIN, STATE, join(0, 9), STATE), [[0], [1], [1], [2, 0, 9]])
        self.assertEqual(after(ROW, BEGIN, BEGIN, STATE), [[0], [0], [1]])

    def test_a_drop_then_another_join_leaves_nothing_of_the_dropped_one(self):
        self.assertEqual(after(SIX, DROP, join(3, 7), STATE), [[5], [5], [6, 0, 0, 2, 2, 3, 5, 1, 3, 4, 7]])

    def test_asking_changes_nothing(self):
        asked = [near(2), call(0, 1), STATE, hours(0), plan(0), quicker(1, 9, 0)]
        self.assertEqual(after(SIX, *asked, *asked), after(SIX, *asked) * 2)


if __name__ == "__main__":
    unittest.main()
