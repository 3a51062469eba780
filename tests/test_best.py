"""Point 4: best, all, quicker, at trees that are worked out by hand."""

import unittest

from lines import (ALIKE, ALL_FROM, AS_MUCH, BEGIN, BEST, DROP, LATER, LONG, MIXED, ROW, SIX, STAR, STATE, after, grown,
                   hours, join, lasts, look, plan, quicker)


class Best(unittest.TestCase):
    def test_one_best(self):
        # Only one person is best alone: else whom the best one calls first is as good.
        self.assertEqual(after(grown(), BEST), [[0, 0]])
        self.assertEqual(after(SIX, BEGIN, BEST), [[0], [0, 0]])

    def test_several_rising(self):
        # From each: 8, 13, 8, 11, 12, 15.
        self.assertEqual(after(SIX, BEST), [[8, 0, 2]])
        self.assertEqual(after(LONG, BEST), [[21, 0, 2]])
        self.assertEqual(after(LATER, BEST), [[23, 0, 1]])
        self.assertEqual(after(AS_MUCH, BEST), [[12, 0, 1, 2]])
        self.assertEqual(after(ALIKE, BEST), [[15, 0, 1, 2]])

    def test_two(self):
        self.assertEqual(after(grown((0, 17)), BEST), [[17, 0, 1]])

    def test_the_first_is_not_among_them(self):
        # 0 -1- 1 -1- 2 -1- 3 -1- 4: from each 4, 3, 3, 3, 4.
        self.assertEqual(after(grown((0, 1), (1, 1), (2, 1), (3, 1)), BEST), [[3, 1, 2, 3]])
        # 0 -9- 1 -2- 2: from each 11, as any two calls of a row of three are one behind another.
        self.assertEqual(after(grown((0, 9), (1, 2)), BEST), [[11, 0, 1, 2]])

    def test_twelve(self):
        # In the row 7 tells 8 at 8 and 6 at 15, 8 tells 7 at 8 and 9 at 17: 38 from both.
        self.assertEqual(after(ROW, BEST), [[38, 7, 8]])
        self.assertEqual(after(STAR, BEST), [[66, 0, 1, 2, 3, 4, 5, 6, 7, 8, 9, 10, 11]])
        self.assertEqual(after(MIXED, BEST), [[21, 0, 1, 2]])

    def test_after_lasts_and_drop(self):
        # With 5's call at 20: 0's and 1's parts, seen from one another, need 8 and 20: 25 from both, and 26 from 2.
        self.assertEqual(after(SIX, lasts(5, 20), BEST), [[2], [25, 0, 1]])
        # Without 5 and 4: from 0 2's part needs 3, 2 at 1, 1 at 6; from 2 0's part needs 5, 0 at 1, 1 at 6, 3 at 4.
        self.assertEqual(after(SIX, DROP, DROP, BEST), [[5], [4], [6, 0, 2]])


class All(unittest.TestCase):
    def test_ordinary(self):
        self.assertEqual(after(SIX, ALL_FROM), [[6, 8, 13, 8, 11, 12, 15]])
        self.assertEqual(after(LONG, ALL_FROM), [[4, 21, 22, 21, 22]])
        self.assertEqual(after(LATER, ALL_FROM), [[5, 23, 23, 26, 24, 26]])
        self.assertEqual(after(AS_MUCH, ALL_FROM), [[5, 12, 12, 12, 15, 15]])
        self.assertEqual(after(ALIKE, ALL_FROM), [[6, 15, 15, 15, 20, 20, 20]])

    def test_one_and_two(self):
        self.assertEqual(after(grown(), ALL_FROM), [[1, 0]])
        self.assertEqual(after(grown((0, 17)), ALL_FROM), [[2, 17, 17]])

    def test_twelve(self):
        self.assertEqual(after(ROW, ALL_FROM), [[12, 66, 65, 63, 60, 56, 51, 45, 38, 38, 45, 55, 66]])
        self.assertEqual(after(STAR, ALL_FROM), [[12] + [66] * 12])
        self.assertEqual(after(MIXED, ALL_FROM), [[12, 21, 21, 21, 24, 26, 27, 28, 36, 33, 25, 36, 36]])

    def test_after_join_drop_lasts_and_begin(self):
        asked = [DROP, DROP, ALL_FROM, lasts(1, 2), ALL_FROM, join(0, 1), ALL_FROM, BEGIN, ALL_FROM]
        # 1 -5- 0 -1- 2 -3- 3, then 1 -2- 0, then 0 -1- 4.
        self.assertEqual(after(SIX, *asked), [
            [5], [4], [4, 6, 9, 6, 9], [5], [4, 4, 6, 4, 6], [4], [5, 4, 6, 4, 7, 5], [0], [1, 0]])


class Quicker(unittest.TestCase):
    def test_a_longer_call(self):
        # 2 at 1, 1 at 10, 5 at 12.
        self.assertEqual(after(SIX, quicker(1, 9, 0)), [[12, 8]])
        # 1's part needs 8 then, and is called first: 1 at 5, 5 at 13, 2 at 6, 4 at 13.
        self.assertEqual(after(SIX, quicker(5, 8, 0)), [[13, 8]])
        # 2 at 3, 0 at 23, 1 at 28, 5 at 30, 4 at 27.
        self.assertEqual(after(SIX, quicker(2, 20, 3)), [[30, 11]])

    def test_a_shorter_call(self):
        # 0 at 1, whose part needs 8, 5 at 3.
        self.assertEqual(after(SIX, quicker(1, 1, 1)), [[9, 13]])
        self.assertEqual(after(SIX, quicker(5, 1, 5)), [[14, 15]])
        # 1 at 5, 5 at 7, and 2's part needs 3 + 4 still: nothing is won.
        self.assertEqual(after(SIX, quicker(5, 1, 0)), [[8, 8]])

    def test_the_same_n(self):
        self.assertEqual(after(SIX, quicker(1, 5, 1), quicker(2, 1, 5), quicker(4, 4, 0)), [[13, 13], [15, 15], [8, 8]])

    def test_n_of_1_and_of_20(self):
        self.assertEqual(after(grown((0, 17)), quicker(1, 1, 0), quicker(1, 20, 0), quicker(1, 3, 1)),
                         [[1, 17], [20, 17], [3, 17]])

    def test_a_long_call_to_a_short_part(self):
        # 2 at 1, 3 at 2, 1 at 2; and with 3's call at 20: 2 at 1, 3 at 21, 1 at 21.
        self.assertEqual(after(LONG, quicker(1, 1, 0), quicker(3, 20, 0)), [[2, 21], [21, 21]])

    def test_twelve(self):
        self.assertEqual(after(ROW, quicker(11, 20, 0), quicker(11, 1, 11), quicker(6, 16, 5)),
                         [[75, 66], [56, 66], [61, 51]])
        self.assertEqual(after(STAR, quicker(11, 1, 0), quicker(11, 1, 11), quicker(1, 20, 5)),
                         [[56, 66], [56, 66], [85, 66]])
        # 3 at 6, whose part needs 12, and 2's part at 20; with 7's call at 20 2's part needs 27 and is called first.
        self.assertEqual(after(MIXED, quicker(3, 1, 0), quicker(7, 20, 0)), [[20, 21], [30, 21]])

    def test_the_object_is_as_it_was(self):
        for built, made in ((SIX, quicker(1, 9, 0)), (SIX, quicker(5, 1, 5)), (SIX, quicker(4, 4, 2)),
                            (ROW, quicker(11, 20, 0)), (grown((0, 17)), quicker(1, 1, 0))):
            asked = [STATE, hours(0), plan(0), hours(1), plan(1)] + look(len(built))
            self.assertEqual(after(built, made, *asked)[1:], after(built, *asked), made)

    def test_it_is_what_lasts_would_make_of_it(self):
        self.assertEqual(after(SIX, quicker(2, 20, 3), lasts(2, 20), hours(3), quicker(2, 1, 3)),
                         [[30, 11], [1], [30], [11, 30]])


if __name__ == "__main__":
    unittest.main()
