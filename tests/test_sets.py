"""Point 3: bound, way, short, ones, at trees that are worked out by hand."""

import unittest

from lines import (ALIKE, AS_MUCH, DROP, LATER, LONG, MIXED, ROW, SIX, STAR, STATE, after, bound, call, grown, hours,
                   join, lasts, ones, order, plan, short, way)


class Bound(unittest.TestCase):
    def test_ordinary(self):
        # 1 calls 0, whose part needs 8, and 5: {0} 5 + 8, {5} 2, {0, 5} 7. 3, 4 and 5 have one to call each.
        self.assertEqual(after(SIX, bound(1), bound(3), bound(4), bound(5)), [[13, 0], [11, 2], [12, 2], [15, 1]])

    def test_nobody(self):
        self.assertEqual(after(grown(), bound(0)), [[0]])
        self.assertEqual(after(grown((0, 9)), DROP, bound(0)), [[1], [0]])

    def test_two(self):
        self.assertEqual(after(grown((0, 17)), bound(0), bound(1)), [[17, 1], [17, 0]])

    def test_all_of_them(self):
        # {2} 1 + 1, {1} 20, {2, 1} 21 + 0.
        self.assertEqual(after(LONG, bound(0)), [[21, 2, 1]])
        # {1} 7 + 3, {2} 2 + 3, {1, 2} 9 + 3.
        self.assertEqual(after(AS_MUCH, bound(0)), [[12, 1, 2]])
        # {1} 2 + 15, {2} 3 + 15, {3} 4 + 12, {1, 2} 5 + 15, {1, 3} 6 + 12, {2, 3} 7 + 12, {1, 2, 3} 9 + 12.
        self.assertEqual(after(MIXED, bound(0)), [[21, 1, 2, 3]])

    def test_the_least_need_not_that_of_the_last_number(self):
        # 2's part needs 6, 1's needs 1, 3's needs 6: {2} 7, {3} 8, {2, 3} 3 + 6, {2, 3, 1} 6 + 1, {1} 4.
        built = grown((0, 3), (0, 1), (0, 2), (2, 6), (1, 1), (3, 6))
        self.assertEqual(after(built, bound(0), order(0, 0)), [[9, 2, 3], [3, 2, 3, 1]])

    def test_alike_bounds_the_one_without_the_last(self):
        # {2} 1 + 7, {1} 5 + 2, {2, 1} 6 + 2.
        self.assertEqual(after(SIX, bound(0)), [[8, 2]])
        # {0} 1 + 7, {3} 3, {4} 4, {0, 3} 4, {0, 4} 5, {3, 4} 7, {0, 3, 4} 8 + 0.
        self.assertEqual(after(SIX, bound(2)), [[8, 0]])
        # {1} 20 + 3, {3} 1 + 2, {1, 3} 21 + 2.
        self.assertEqual(after(LATER, bound(0)), [[23, 1]])

    def test_three_sets_with_alike_bounds(self):
        # 1's part needs 5, 2's needs 3, 3's nothing: {1} 1 + 5, {1, 2} 3 + 3, {1, 2, 3} 6 + 0.
        built = grown((0, 1), (0, 2), (0, 3), (1, 5), (2, 3))
        self.assertEqual(after(built, bound(0)), [[6, 1]])

    def test_the_last_is_the_last_called_not_the_greatest_number(self):
        # Called are 3, 2, 1, whose parts need 5, 4, 2: {3} 1 + 5, {3, 2} 4 + 4, {3, 2, 1} 6 + 2.
        built = grown((0, 2), (0, 3), (0, 1), (3, 5), (2, 4), (1, 2))
        self.assertEqual(after(built, order(0, 0), bound(0)), [[3, 3, 2, 1], [8, 3, 2]])

    def test_the_set_is_told_in_the_order_of_calling(self):
        # 3's part needs 2, 1's needs 1, 2's nothing; the calls last 1, 5 and 10: {3} 3, {3, 1} 7, {3, 1, 2} 16.
        built = grown((0, 5), (0, 10), (0, 1), (1, 1), (3, 2))
        self.assertEqual(after(built, bound(0)), [[16, 3, 1, 2]])

    def test_all_calls_alike(self):
        # 1's and 2's parts need 5, 3's nothing: {1} 10, {1, 2} 15, {1, 2, 3} 15.
        self.assertEqual(after(ALIKE, bound(0), bound(3)), [[15, 1, 2], [20, 0]])

    def test_a_row_of_twelve(self):
        # 5 calls 6 (6 + 45), then 4 (11 + 10); 7 calls 8 (8 + 30), then 6 (15 + 21);
        # 8 calls 7 (8 + 28), then 9 (17 + 21).
        self.assertEqual(after(ROW, bound(0), bound(5), bound(7), bound(8), bound(11)),
                         [[66, 1], [51, 6], [38, 8], [38, 7, 9], [66, 10]])

    def test_a_star_of_twelve(self):
        self.assertEqual(after(STAR, bound(0), bound(4), bound(11)),
                         [[66, 1, 2, 3, 4, 5, 6, 7, 8, 9, 10, 11], [66, 0], [66, 0]])
        twenties = grown(*[(0, 20)] * 11)
        self.assertEqual(after(twenties, bound(0)), [[220, 1, 2, 3, 4, 5, 6, 7, 8, 9, 10, 11]])

    def test_after_lasts(self):
        # {2} 8, {1} 9 + 2, {2, 1} 10 + 2.
        self.assertEqual(after(SIX, lasts(1, 9), bound(0)), [[5], [12, 2, 1]])


class Way(unittest.TestCase):
    def both(self, built, p, q, lasted, count):
        self.assertEqual(after(built, way(p, q), way(q, p)), [[lasted, count]] * 2, (p, q))

    def test_ordinary(self):
        self.both(SIX, 5, 3, 2 + 5 + 1 + 3, 4)
        self.both(SIX, 5, 4, 2 + 5 + 1 + 4, 4)
        self.both(SIX, 3, 4, 3 + 4, 2)
        self.both(SIX, 0, 5, 5 + 2, 2)
        self.both(SIX, 1, 2, 5 + 1, 2)
        self.both(SIX, 1, 4, 5 + 1 + 4, 3)

    def test_to_themselves(self):
        for built in (grown(), grown((0, 17)), SIX, ROW, STAR):
            people = range(len(built))
            self.assertEqual(after(built, *[way(p, p) for p in people]), [[0, 0] for p in people])

    def test_two_who_are_joined(self):
        self.both(grown((0, 17)), 0, 1, 17, 1)
        for p, q, n in ((0, 1, 5), (0, 2, 1), (2, 3, 3), (2, 4, 4), (1, 5, 2)):
            self.both(SIX, p, q, n, 1)

    def test_a_row_of_twelve(self):
        self.both(ROW, 0, 11, 66, 11)
        self.both(ROW, 3, 7, 4 + 5 + 6 + 7, 4)
        self.both(ROW, 10, 11, 11, 1)

    def test_a_row_whose_ends_are_not_the_first_and_the_last(self):
        # 4 -5- 2 -3- 0 -2- 1 -4- 3.
        built = grown((0, 2), (0, 3), (1, 4), (2, 5))
        self.both(built, 4, 3, 14, 4)
        self.both(built, 2, 3, 9, 3)

    def test_a_star_of_twelve(self):
        self.both(STAR, 0, 11, 11, 1)
        self.both(STAR, 3, 9, 12, 2)
        self.both(STAR, 10, 11, 21, 2)

    def test_all_calls_alike(self):
        self.both(ALIKE, 4, 5, 20, 4)
        self.both(ALIKE, 3, 5, 15, 3)

    def test_twelve(self):
        self.both(MIXED, 10, 11, 10 + 5 + 2 + 4 + 1 + 11, 6)
        self.both(MIXED, 7, 5, 8 + 7 + 3 + 2 + 6, 5)
        self.both(MIXED, 8, 11, 9 + 1 + 11, 3)
        self.both(MIXED, 4, 5, 5 + 6, 2)

    def test_after_lasts_and_join(self):
        asked = [lasts(2, 20), way(5, 3), way(0, 1), join(5, 9), way(6, 4)]
        self.assertEqual(after(SIX, *asked), [[1], [30, 4], [5, 1], [6], [9 + 2 + 5 + 20 + 4, 5]])


class Short(unittest.TestCase):
    def test_later_than_as_it_is(self):
        # 3 at 1, 1 at 21 and 2 at 24; as it is 1 at 20, 2 at 23, 3 at 21, 4 at 23.
        self.assertEqual(after(LATER, short(0)), [[24, 23]])
        # 2 at 3, 0 at 23, 3 at 24, 4 at 26; as it is 0 at 20, 4 at 23, 2 at 23.
        self.assertEqual(after(LATER, short(1)), [[26, 23]])
        # 5 at 2, 0 at 7, whose part needs 8.
        self.assertEqual(after(SIX, short(1)), [[15, 13]])

    def test_as_soon_in_the_same_order(self):
        self.assertEqual(after(SIX, short(0), short(2), short(3), short(4), short(5)),
                         [[8, 8], [8, 8], [11, 11], [12, 12], [15, 15]])
        self.assertEqual(after(LONG, short(0), short(2)), [[21, 21], [21, 21]])

    def test_as_soon_in_another_order(self):
        # Both parts need 3: 2 at 2, 4 at 5, 1 at 9, 3 at 12.
        self.assertEqual(after(AS_MUCH, short(0)), [[12, 12]])

    def test_alike_calls_the_lesser_number_first(self):
        # 1 at 2, 2 at 4, 3 at 9; as it is 2 at 2, 3 at 7, 1 at 4.
        self.assertEqual(after(grown((0, 2), (0, 2), (2, 5)), short(0)), [[9, 7]])
        # 1 at 2, 3 at 7, 2 at 4.
        self.assertEqual(after(grown((0, 2), (0, 2), (1, 5)), short(0)), [[7, 7]])
        # From 1 both 0 and 3 are called for 2: 0 at 2, 3 at 4, 4 at 13, then 2 at 9; as it is 3 at 2, 4 at 11.
        self.assertEqual(after(grown((0, 2), (1, 5), (1, 2), (3, 9)), short(1)), [[13, 11]])

    def test_alike_calls_that_are_not_the_shortest(self):
        # 2 at 1, then 1 at 5, then 3 at 9 and 4 at 19; as it is 3 at 4, 4 at 14, 1 at 8, 2 at 9.
        self.assertEqual(after(grown((0, 4), (0, 1), (0, 4), (3, 10)), short(0)), [[19, 14]])

    def test_all_others_call_as_in_the_plan(self):
        # 0 -1- 1; 1 -20- 2 -3- 3; 1 -1- 4 -2- 5. Once told by 0, 1 calls 2 first: 2 at 21, 3 at 24, 4 at 22, 5 at 24.
        built = grown((0, 1), (1, 20), (2, 3), (1, 1), (4, 2))
        self.assertEqual(after(built, short(0)), [[24, 24]])
        # 1 itself: 0 at 1, 4 at 2, 2 at 22, 3 at 25; as it is 2 at 20, 3 at 23, 4 at 21, 5 at 23, 0 at 22.
        self.assertEqual(after(built, short(1)), [[25, 23]])

    def test_one_and_two(self):
        self.assertEqual(after(grown(), short(0)), [[0, 0]])
        self.assertEqual(after(grown((0, 17)), short(0), short(1)), [[17, 17], [17, 17]])

    def test_all_calls_alike(self):
        self.assertEqual(after(ALIKE, short(0), short(3)), [[15, 15], [20, 20]])
        # The lesser numbers first: 1 at 5, 2 at 10, 3 at 15, 4 at 20; as it is 3 at 5, 4 at 10, 1 at 10, 2 at 15.
        self.assertEqual(after(grown((0, 5), (0, 5), (0, 5), (3, 5)), short(0)), [[20, 15]])

    def test_a_row_of_twelve(self):
        # 5 tells 4 at 5 and 6 at 11, whose part needs 45; 7 tells 6 at 7 and 8 at 15, whose part needs 30.
        self.assertEqual(after(ROW, short(0), short(5), short(7), short(8), short(11)),
                         [[66, 66], [56, 51], [45, 38], [38, 38], [66, 66]])

    def test_a_star_of_twelve(self):
        self.assertEqual(after(STAR, short(0), short(1), short(11)), [[66, 66]] * 3)

    def test_twelve(self):
        # 3 tells 9 at 1, 0 at 5, whose part needs 20, and 8 at 14; as it is 0 at 4, 9 at 5, 8 at 14.
        self.assertEqual(after(MIXED, short(0), short(1), short(3)), [[21, 21], [21, 21], [25, 24]])

    def test_it_changes_no_order(self):
        self.assertEqual(after(LATER, short(0), order(0, 0), plan(0)), [[24, 23], [2, 1, 3], [23, 0, 20, 23, 21, 23]])


class Ones(unittest.TestCase):
    def test_ordinary(self):
        self.assertEqual(after(SIX, *[ones(p) for p in range(6)]), [[3], [4], [3], [4], [4], [5]])
        self.assertEqual(after(LONG, *[ones(p) for p in range(4)]), [[2], [3], [2], [3]])
        self.assertEqual(after(MIXED, ones(0)), [[5]])

    def test_the_objects_own_lengths_stay(self):
        asked = [STATE, hours(0), plan(0), call(0, 1), hours(5)]
        seen = [[6, 0, 0, 2, 2, 1, 5, 1, 3, 4, 2], [8], [8, 0, 6, 1, 4, 8, 8], [5], [15]]
        self.assertEqual(after(SIX, ones(0), *asked, ones(5), *asked), [[3]] + seen + [[5]] + seen)

    def test_the_order_is_by_what_parts_would_need(self):
        # 0 -1- 1 -20- 3 and 0 -1- 2 -1- 4 -1- 5: as it is 1 is called first, but did each last 1, it would be 2.
        built = grown((0, 1), (0, 1), (1, 20), (2, 1), (4, 1))
        self.assertEqual(after(built, order(0, 0), ones(0)), [[2, 1, 2], [3]])

    def test_where_each_call_lasts_1_it_is_what_hours_tells(self):
        # From 0: 3's part needs 2, 2's needs 1: 3 at 1, 2 at 2, 1 at 3.
        built = grown((0, 1), (0, 1), (0, 1), (2, 1), (3, 1), (5, 1))
        self.assertEqual(after(built, ones(0), hours(0)), [[3], [3]])
        people = range(7)
        self.assertEqual(after(built, *[ones(p) for p in people]), after(built, *[hours(p) for p in people]))

    def test_one_and_two(self):
        self.assertEqual(after(grown(), ones(0)), [[0]])
        self.assertEqual(after(grown((0, 17)), ones(0), ones(1)), [[1], [1]])

    def test_all_calls_alike(self):
        self.assertEqual(after(ALIKE, *[ones(p) for p in range(6)]), [[3], [3], [3], [4], [4], [4]])

    def test_a_row_of_twelve(self):
        self.assertEqual(after(ROW, *[ones(p) for p in range(12)]),
                         [[11], [10], [9], [8], [7], [6], [6], [7], [8], [9], [10], [11]])

    def test_a_star_of_twelve(self):
        self.assertEqual(after(STAR, *[ones(p) for p in range(12)]), [[11]] * 12)

    def test_lasts_makes_no_difference(self):
        self.assertEqual(after(SIX, lasts(1, 20), ones(0), lasts(4, 1), ones(3)), [[5], [3], [4], [4]])


if __name__ == "__main__":
    unittest.main()
