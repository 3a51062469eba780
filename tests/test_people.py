"""Point 1: begin, join, drop, lasts."""

import unittest

from lines import (ALL_FROM, BEGIN, BEST, DROP, GREATEST, ROW, SIX, STAR, STATE, after, bound, by, call, could, grown,
                   hours, join, lasts, look, near, ones, order, part, plan, quicker, refused, run, short, way)


class Begin(unittest.TestCase):
    def test_begin_answers_0_and_there_is_one_person(self):
        self.assertEqual(run(BEGIN, plan(0), hours(1)), [[0], [0, 0], [-2]])

    def test_a_second_begin_leaves_one_person(self):
        self.assertEqual(after(SIX, BEGIN, plan(0), hours(1), DROP), [[0], [0, 0], [-2], [-6]])

    def test_after_a_second_begin_numbers_and_lengths_are_new(self):
        again = [BEGIN, join(0, 7), join(0, 2), plan(0), part(0, 1)]
        self.assertEqual(after(SIX, *again), [[0], [1], [2], [9, 0, 7, 9], [0, 7]])
        self.assertEqual(after(STAR, BEGIN, *[join(0, 1)] * 12), [[0]] + [[i] for i in range(1, 12)] + [[-28]])


class Join(unittest.TestCase):
    def test_join_answers_the_number(self):
        self.assertEqual(run(*SIX), [[0], [1], [2], [3], [4], [5]])
        self.assertEqual(run(*ROW), [[i] for i in range(12)])

    def test_the_one_joined_has_that_call_with_that_one(self):
        asked = [part(2, 4), part(4, 2), part(0, 4), part(4, 3), part(1, 5)]
        self.assertEqual(after(SIX, *asked), [[0, 4], [8, 4], [-22], [-22], [0, 2]])

    def test_n_of_1_and_of_20(self):
        self.assertEqual(run(BEGIN, join(0, 1), join(0, 20), plan(0)), [[0], [1], [2], [21, 0, 1, 21]])

    def test_a_thirteenth_person(self):
        for twelve in (ROW, STAR):
            seen = after(twelve, *look(12))
            self.assertEqual(after(twelve, join(0, 1), *look(12)), [[-28]] + seen)
            self.assertEqual(after(twelve, join(11, 20), DROP, join(0, 1), join(0, 1)), [[-28], [11], [11], [-28]])


class Drop(unittest.TestCase):
    def test_drop_answers_how_many_there_are(self):
        self.assertEqual(after(SIX, DROP, DROP, DROP, DROP, DROP), [[5], [4], [3], [2], [1]])

    def test_drop_takes_the_last(self):
        # Without 5 the part of 1 needs nothing: 2 at 1, 1 at 6, 3 at 4, 4 at 8.
        self.assertEqual(after(SIX, DROP, plan(0), hours(5), part(1, 5)), [[5], [8, 0, 6, 1, 4, 8], [-2], [-2]])

    def test_drop_down_to_one(self):
        built = grown((0, 3), (1, 4))
        self.assertEqual(after(built, DROP, DROP, DROP, plan(0), hours(1)), [[2], [1], [-6], [0, 0], [-2]])
        self.assertEqual(after(built, DROP, DROP, DROP, DROP, join(0, 9), plan(1)),
                         [[2], [1], [-6], [-6], [1], [9, 9, 0]])

    def test_join_after_drop(self):
        # 5 was joined to 1 by 2, and is joined to 3 by 20 instead: 3 at 20, 2 at 23, 0 at 24, 4 at 28, 1 at 29.
        self.assertEqual(after(SIX, DROP, join(3, 20), part(1, 5), part(3, 5), hours(5)),
                         [[5], [5], [-22], [0, 20], [29]])


class Lasts(unittest.TestCase):
    def test_lasts_answers_how_long_it_lasted(self):
        self.assertEqual(after(SIX, lasts(1, 20), lasts(1, 1), lasts(1, 1), lasts(1, 5)), [[5], [20], [1], [1]])

    def test_lasts_makes_a_call_longer(self):
        # 2's part needs 7 still and is told at 1; 1 is told at 1 + 9, 5 at 12.
        self.assertEqual(after(SIX, lasts(1, 9), part(0, 1), part(1, 0), plan(0)),
                         [[5], [2, 9], [8, 9], [12, 0, 10, 1, 4, 8, 12]])

    def test_lasts_makes_a_call_shorter(self):
        # 2's part needs 3 + 1 now: 2 at 1, 3 at 4, 4 at 5; 1 at 6, 5 at 8.
        self.assertEqual(after(SIX, lasts(4, 1), part(0, 2), plan(0)), [[4], [4, 1], [8, 0, 6, 1, 4, 5, 8]])

    def test_lasts_can_turn_the_order(self):
        # 1's part needs 8 then, and 2's 7.
        self.assertEqual(after(SIX, order(0, 0), lasts(5, 8), order(0, 0), plan(0)),
                         [[2, 2, 1], [2], [2, 1, 2], [13, 0, 5, 6, 9, 13, 13]])

    def test_lasts_is_of_the_one_who_was_joined(self):
        # 2 was joined to 0, and 3 and 4 to 2: only the call of 0 and 2 differs.
        self.assertEqual(after(SIX, lasts(2, 6), part(0, 2), part(2, 3), part(2, 4), part(0, 1)),
                         [[1], [7, 6], [0, 3], [0, 4], [2, 5]])

    def test_a_dropped_call_leaves_nothing(self):
        self.assertEqual(after(SIX, lasts(5, 19), DROP, join(1, 2), lasts(5, 2)), [[2], [5], [5], [2]])


class Refusals(unittest.TestCase):
    def test_before_a_begin_every_call_answers_11(self):
        calls = [join(0, 1), DROP, lasts(1, 1), hours(0), plan(0), order(0, 0), could(0, [0]), by(0, 0), part(0, 1),
                 call(0, 1), way(0, 0), bound(0), BEST, ALL_FROM, quicker(1, 1, 0), short(0), ones(0), near(0), STATE]
        for made in calls:
            self.assertEqual(run(made, BEGIN, plan(0), hours(1)), [[-11], [0], [0, 0], [-2]], made)
        self.assertEqual(run(*calls), [[-11]] * 19)
        self.assertEqual(run(*calls, BEGIN, *look(1)), [[-11]] * 19 + run(BEGIN, *look(1)))

    def test_before_a_begin_11_comes_ahead_of_all_others(self):
        calls = [join(1, 0), join(GREATEST, GREATEST), lasts(0, 0), lasts(0, 21), hours(12), plan(GREATEST),
                 order(3, 4), could(5, []), could(0, [1] * 14), by(1, GREATEST), part(0, 0), part(7, GREATEST),
                 call(GREATEST, 0), call(0, 0), way(7, 7), bound(9), quicker(0, 0, GREATEST), quicker(1, 21, 0),
                 short(1), ones(1), near(GREATEST)]
        self.assertEqual(run(*calls), [[-11]] * len(calls))

    def test_there_is_no_such_person(self):
        for built in (grown(), grown((0, 3)), SIX, ROW, STAR):
            count = len(built)
            for none in (count, count + 1, 13, 255, 256, 65536, 2147483648, GREATEST):
                times = [0] * count
                for made in (join(none, 1), lasts(none, 1), hours(none), plan(none), by(none, 0), could(none, times),
                             order(none, 0), order(0, none), order(none, none), part(none, 0), part(0, none),
                             part(none, none)):
                    refused(self, built, made, -2)

    def test_lasts_of_the_first(self):
        for built in (grown(), grown((0, 3)), SIX):
            refused(self, built, lasts(0, 1), -2)

    def test_n_is_not_1_to_20(self):
        for n in (0, 21, 22, 256, 257, GREATEST):
            refused(self, grown(), join(0, n), -22)
            refused(self, SIX, join(4, n), -22)
            refused(self, SIX, lasts(1, n), -22)
            refused(self, SIX, lasts(5, n), -22)
            refused(self, ROW, lasts(11, n), -22)

    def test_only_one(self):
        refused(self, grown(), DROP, -6)

    def test_they_are_not_joined(self):
        joined = [(0, 1), (0, 2), (2, 3), (2, 4), (1, 5)]
        for p in range(6):
            for q in range(6):
                if (p, q) not in joined and (q, p) not in joined:
                    refused(self, SIX, part(p, q), -22)
                    if p != q:
                        refused(self, SIX, order(p, q), -22)
        refused(self, grown(), part(0, 0), -22)

    def test_times_that_are_not_one_for_each(self):
        for built in (grown(), grown((0, 3)), SIX, ROW):
            for many in range(15):
                if many != len(built):
                    refused(self, built, could(0, [0] * many), -22)
                    refused(self, built, could(len(built) - 1, [GREATEST] * many), -22)

    def test_twelve_already(self):
        for p in (0, 5, 11):
            for n in (1, 20):
                refused(self, ROW, join(p, n), -28)
                refused(self, STAR, join(p, n), -28)

    def test_of_two_refusals_the_one_told_first(self):
        # -2 ahead of -22 and of -28, and -22 ahead of -28.
        for n in (0, 21, GREATEST):
            refused(self, SIX, join(6, n), -2)
            refused(self, SIX, lasts(6, n), -2)
            refused(self, SIX, lasts(0, n), -2)
            refused(self, ROW, join(12, n), -2)
            refused(self, ROW, join(GREATEST, n), -2)
            refused(self, ROW, join(0, n), -22)
            refused(self, STAR, join(11, n), -22)
        refused(self, ROW, join(12, 1), -2)
        for times in ([], [0] * 5, [0] * 7, [0] * 14):
            refused(self, SIX, could(6, times), -2)
            refused(self, SIX, could(GREATEST, times), -2)

    def test_a_line_goes_on_after_each_refusal(self):
        line = SIX + [join(9, 9), lasts(0, 3), could(0, [0, 1, 2]), could(7, [0] * 14), part(3, 4), order(0, 5),
                      plan(0)]
        self.assertEqual(run(*line)[6:], [[-2], [-2], [-22], [-2], [-22], [-22], [8, 0, 6, 1, 4, 8, 8]])


if __name__ == "__main__":
    unittest.main()
