"""Point 2: hours, plan, by, order, part, could, at trees that are worked out by hand."""

import unittest

from lines import BEGIN, GREATEST, ROW, SIX, STAR, after, by, could, grown, hours, lasts, order, part, plan, run


class Ordinary(unittest.TestCase):
    """SIX. Seen from 0, 1's part needs 2 and 2's part needs 3 + 4; seen from 2, 0's part needs 5 + 2."""

    def test_hours(self):
        self.assertEqual(after(SIX, *[hours(p) for p in range(6)]), [[8], [13], [8], [11], [12], [15]])

    def test_plan(self):
        self.assertEqual(after(SIX, *[plan(p) for p in range(6)]), [
            [8, 0, 6, 1, 4, 8, 8],
            [13, 5, 0, 6, 9, 13, 7],
            [8, 1, 6, 0, 4, 8, 8],
            [11, 4, 9, 3, 0, 8, 11],
            [12, 5, 10, 4, 8, 0, 12],
            [15, 7, 2, 8, 11, 15, 0],
        ])

    def test_order_told_by_nobody(self):
        self.assertEqual(after(SIX, *[order(p, p) for p in range(6)]),
                         [[2, 2, 1], [2, 0, 5], [3, 0, 3, 4], [1, 2], [1, 2], [1, 1]])

    def test_order_told_by_somebody(self):
        asked = [order(0, 1), order(0, 2), order(1, 0), order(1, 5), order(2, 0), order(2, 3), order(2, 4),
                 order(3, 2), order(4, 2), order(5, 1)]
        self.assertEqual(after(SIX, *asked),
                         [[1, 2], [1, 1], [1, 5], [1, 0], [2, 3, 4], [2, 0, 4], [2, 0, 3], [0], [0], [0]])

    def test_part_from_both_sides(self):
        asked = [part(0, 1), part(1, 0), part(0, 2), part(2, 0), part(2, 3), part(3, 2), part(2, 4), part(4, 2),
                 part(1, 5), part(5, 1)]
        self.assertEqual(after(SIX, *asked),
                         [[2, 5], [8, 5], [7, 1], [7, 1], [0, 3], [8, 3], [0, 4], [8, 4], [0, 2], [13, 2]])

    def test_by(self):
        # Told at 0, 1, 4, 6, 8 and 8.
        times = [0, 1, 2, 3, 4, 5, 6, 7, 8, 9, 20, GREATEST]
        self.assertEqual(after(SIX, *[by(0, h) for h in times]),
                         [[1], [2], [2], [2], [3], [3], [4], [4], [6], [6], [6], [6]])

    def test_by_from_another(self):
        # Told at 0, 2, 7, 8, 11 and 15.
        times = [0, 1, 2, 6, 7, 8, 10, 11, 14, 15, GREATEST]
        self.assertEqual(after(SIX, *[by(5, h) for h in times]),
                         [[1], [1], [2], [2], [3], [4], [4], [5], [5], [6], [6]])

    def test_asking_changes_nothing(self):
        asked = [hours(3), plan(4), order(2, 0), could(0, [0, 6, 1, 4, 8, 8]), by(1, 3), part(0, 2)]
        self.assertEqual(after(SIX, *asked, *asked), after(SIX, *asked) * 2)


class OneAndTwo(unittest.TestCase):
    def test_one_person(self):
        asked = [hours(0), plan(0), order(0, 0), by(0, 0), by(0, GREATEST)]
        self.assertEqual(after(grown(), *asked), [[0], [0, 0], [0], [1], [1]])

    def test_one_person_could(self):
        self.assertEqual(after(grown(), could(0, [0]), could(0, [1]), could(0, [GREATEST])),
                         [[1, 0], [0, 1], [0, GREATEST]])

    def test_two(self):
        asked = [hours(0), hours(1), plan(0), plan(1), order(0, 0), order(1, 1), order(0, 1), order(1, 0), part(0, 1),
                 part(1, 0), by(0, 0), by(0, 16), by(0, 17), by(1, 16), by(1, 17)]
        self.assertEqual(after(grown((0, 17)), *asked),
                         [[17], [17], [17, 0, 17], [17, 17, 0], [1, 1], [1, 0], [0], [0], [0, 17], [0, 17],
                          [1], [1], [2], [1], [2]])

    def test_two_could(self):
        rows = [(0, [0, 17]), (0, [0, 16]), (0, [0, 18]), (0, [1, 18]), (0, [17, 0]), (1, [17, 0]), (1, [16, 0]),
                (1, [0, 17]), (0, [0, GREATEST]), (0, [0, 0])]
        self.assertEqual(after(grown((0, 17)), *[could(p, times) for p, times in rows]),
                         [[1, 17], [0, 16], [1, 18], [0, 18], [0, 17], [1, 17], [0, 16], [0, 17], [1, GREATEST],
                          [0, 0]])


class LongCalls(unittest.TestCase):
    def test_a_long_call_to_a_short_part_comes_last(self):
        # 1 needs nothing, 2 needs 1: 2 at 1, 3 at 2, 1 at 21. The other way round it would be 22.
        built = grown((0, 20), (0, 1), (2, 1))
        self.assertEqual(after(built, plan(0), order(0, 0)), [[21, 0, 21, 1, 2], [2, 2, 1]])

    def test_a_long_call_comes_first_where_its_part_needs_more(self):
        # 1 needs 3, 3 needs 2: 1 at 20, 2 at 23, 3 at 21, 4 at 23. The shortest first would be 24.
        built = grown((0, 20), (1, 3), (0, 1), (3, 2))
        self.assertEqual(after(built, plan(0), order(0, 0)), [[23, 0, 20, 23, 21, 23], [2, 1, 3]])

    def test_what_a_part_needs_does_not_hold_the_call_to_it(self):
        # With the calls to them 1's would be 20 and 2's 1 + 6; without, 1's is 0 and 2's 6, so 2 comes first.
        built = grown((0, 20), (0, 1), (2, 6))
        self.assertEqual(after(built, order(0, 0), plan(0)), [[2, 2, 1], [21, 0, 21, 1, 7]])

    def test_those_who_call_wait_for_their_own_call(self):
        # 0 calls 1 till 10; 1 calls 2 from then on, and 0 calls 3 from then on.
        built = grown((0, 10), (1, 2), (0, 4))
        self.assertEqual(after(built, plan(0), plan(3), plan(2)), [[14, 0, 10, 12, 14], [16, 4, 14, 16, 0],
                                                                  [16, 12, 2, 0, 16]])


class AsMuch(unittest.TestCase):
    def test_the_lesser_number_first(self):
        # Both parts need 3: 1 at 7, 3 at 10, 2 at 9, 4 at 12.
        built = grown((0, 7), (0, 2), (1, 3), (2, 3))
        self.assertEqual(after(built, order(0, 0), plan(0)), [[2, 1, 2], [12, 0, 7, 9, 10, 12]])

    def test_the_lesser_number_first_however_the_parts_are_made(self):
        # 1's part needs 2 + 2 by two calls, 2's needs 4 by one; then 2's needs 5, then 3.
        built = grown((0, 9), (0, 1), (2, 4), (1, 2), (1, 2))
        self.assertEqual(after(built, order(0, 0), plan(0), lasts(3, 5), order(0, 0), lasts(3, 3), order(0, 0)),
                         [[2, 1, 2], [14, 0, 9, 10, 14, 11, 13], [4], [2, 2, 1], [5], [2, 1, 2]])

    def test_the_one_they_were_joined_to_is_among_them(self):
        built = grown((0, 8), (1, 3), (1, 1))
        self.assertEqual(after(built, order(1, 1), plan(1), order(1, 0), order(1, 2), order(1, 3)),
                         [[3, 0, 2, 3], [12, 8, 0, 11, 12], [2, 2, 3], [2, 0, 3], [2, 0, 2]])

    def test_three_that_need_as_much_about_one_that_needs_more(self):
        # 1, 2 and 4 need nothing, 3 needs 1.
        built = grown((0, 5), (0, 1), (0, 2), (0, 4), (3, 1))
        self.assertEqual(after(built, order(0, 0), plan(0)), [[4, 3, 1, 2, 4], [12, 0, 7, 8, 2, 12, 3]])


class Twelve(unittest.TestCase):
    def test_a_row_from_its_ends(self):
        # The call of i - 1 and i lasts i.
        rising = [0, 1, 3, 6, 10, 15, 21, 28, 36, 45, 55, 66]
        falling = [66, 65, 63, 60, 56, 51, 45, 38, 30, 21, 11, 0]
        self.assertEqual(after(ROW, plan(0), plan(11), hours(0), hours(11)),
                         [[66] + rising, [66] + falling, [66], [66]])

    def test_a_row_from_within(self):
        # 6's part needs 7 + 8 + 9 + 10 + 11 and is told at 6; 4's needs 4 + 3 + 2 + 1 and is told at 11.
        self.assertEqual(after(ROW, plan(5), order(5, 5), part(5, 6), part(5, 4), part(6, 5), by(5, 20), by(5, 21)),
                         [[51, 21, 20, 18, 15, 11, 0, 6, 13, 21, 30, 40, 51], [2, 6, 4], [45, 6], [10, 5], [15, 6],
                          [7], [9]])

    def test_a_star_from_its_middle(self):
        # All need nothing, so it's by their numbers.
        times = [0, 1, 3, 6, 10, 15, 21, 28, 36, 45, 55, 66]
        self.assertEqual(after(STAR, plan(0), order(0, 0), by(0, 35), by(0, 36)),
                         [[66] + times, [11] + list(range(1, 12)), [8], [9]])

    def test_a_star_from_without(self):
        times = [3, 4, 6, 0, 10, 15, 21, 28, 36, 45, 55, 66]
        self.assertEqual(after(STAR, plan(3), order(3, 3), order(0, 3), part(3, 0), part(0, 3)),
                         [[66] + times, [1, 0], [10, 1, 2, 4, 5, 6, 7, 8, 9, 10, 11], [63, 3], [0, 3]])

    def test_a_star_whose_calls_fall(self):
        # The first is called first, though that call is the longest.
        built = grown(*[(0, 12 - i) for i in range(1, 12)])
        self.assertEqual(after(built, plan(0)), [[66, 0, 11, 21, 30, 38, 45, 51, 56, 60, 63, 65, 66]])

    def test_could_of_twelve(self):
        row = [0, 1, 3, 6, 10, 15, 21, 28, 36, 45, 55, 66]
        self.assertEqual(after(ROW, could(0, row), could(0, row[:11] + [65]), could(11, row)),
                         [[1, 66], [0, 65], [0, 66]])
        self.assertEqual(after(STAR, could(0, row), could(0, row[:11] + [65]), could(0, [0, 66] + row[2:11] + [65])),
                         [[1, 66], [0, 65], [0, 66]])


class AllAlike(unittest.TestCase):
    def test_a_row(self):
        ones = grown(*[(i, 1) for i in range(11)])
        self.assertEqual(after(ones, hours(0), hours(5), hours(6), order(5, 5), order(6, 6)),
                         [[11], [6], [6], [2, 6, 4], [2, 5, 7]])
        twenties = grown(*[(i, 20) for i in range(11)])
        self.assertEqual(after(twenties, hours(0), hours(5), hours(6)), [[220], [120], [120]])

    def test_a_star(self):
        twenties = grown(*[(0, 20)] * 11)
        self.assertEqual(after(twenties, hours(0), hours(7), plan(7)),
                         [[220], [220], [220, 20, 40, 60, 80, 100, 120, 140, 0, 160, 180, 200, 220]])

    def test_ones_by_whose_part_needs_longest(self):
        # 3's part needs 2, 2's needs 1, 1's needs nothing.
        built = grown((0, 1), (0, 1), (0, 1), (2, 1), (3, 1), (5, 1))
        self.assertEqual(after(built, plan(0), order(0, 0)), [[3, 0, 3, 2, 1, 3, 2, 3], [3, 3, 2, 1]])


class Could(unittest.TestCase):
    def could_six(self, p, times):
        return after(SIX, could(p, times))[0]

    def test_calls_that_touch(self):
        self.assertEqual(self.could_six(0, [0, 6, 1, 4, 8, 8]), [1, 8])

    def test_calls_that_overlap_by_one(self):
        # 0's call to 1 is from 0 to 5, and to 2 from 0 to 1.
        self.assertEqual(self.could_six(0, [0, 5, 1, 4, 8, 8]), [0, 8])
        # 2's call to 3 is from 1 to 4, and to 4 from 3 to 7.
        self.assertEqual(self.could_six(0, [0, 6, 1, 4, 7, 8]), [0, 8])

    def test_calls_that_end_together(self):
        self.assertEqual(self.could_six(0, [0, 6, 1, 8, 8, 8]), [0, 8])

    def test_a_call_within_another(self):
        # 0's call to 2 is from 3 to 4, while that to 1 is from 0 to 5.
        self.assertEqual(self.could_six(0, [0, 5, 4, 7, 11, 7]), [0, 11])

    def test_a_call_that_begins_too_early(self):
        # 1 knows at 6, and can't have told 5 before 8.
        self.assertEqual(self.could_six(0, [0, 6, 1, 4, 8, 7]), [0, 8])
        self.assertEqual(self.could_six(0, [0, 6, 1, 3, 8, 8]), [0, 8])
        self.assertEqual(self.could_six(0, [0, 6, 0, 4, 8, 8]), [0, 8])

    def test_a_call_that_would_begin_before_0(self):
        self.assertEqual(self.could_six(5, [7, 1, 8, 11, 15, 0]), [0, 15])

    def test_another_order(self):
        self.assertEqual(self.could_six(0, [0, 5, 6, 9, 13, 7]), [1, 13])
        self.assertEqual(self.could_six(0, [0, 6, 1, 8, 5, 8]), [1, 8])

    def test_waiting_is_allowed(self):
        self.assertEqual(self.could_six(0, [0, 7, 1, 4, 8, 9]), [1, 9])
        self.assertEqual(self.could_six(0, [0, 100, 50, 1000, 60, GREATEST]), [1, GREATEST])

    def test_the_first_ones_time_is_0(self):
        self.assertEqual(self.could_six(0, [1, 7, 2, 5, 9, 9]), [0, 9])
        self.assertEqual(self.could_six(0, [1, 20, 10, 14, 18, 30]), [0, 30])

    def test_from_another(self):
        self.assertEqual(self.could_six(5, [7, 2, 8, 11, 15, 0]), [1, 15])
        self.assertEqual(self.could_six(0, [7, 2, 8, 11, 15, 0]), [0, 15])
        self.assertEqual(self.could_six(3, [4, 9, 3, 0, 8, 11]), [1, 11])
        # 2 calls 0 from 3 to 4, and 4 from 3 to 7.
        self.assertEqual(self.could_six(3, [4, 9, 3, 0, 7, 11]), [0, 11])

    def test_calls_of_two_who_tell_may_overlap(self):
        # 1 calls 5 from 6 to 8 while 2 calls 4 from 4 to 8.
        self.assertEqual(self.could_six(2, [1, 6, 0, 4, 8, 8]), [1, 8])

    def test_the_greatest_is_told_where_it_could_not_be_so(self):
        self.assertEqual(self.could_six(0, [GREATEST, 0, 0, 0, 0, 0]), [0, GREATEST])
        self.assertEqual(self.could_six(0, [0, 0, 0, 0, 0, 0]), [0, 0])
        self.assertEqual(self.could_six(0, [3, 9, 12, 7, 1, 2]), [0, 12])

    def test_calls_that_touch_after_lasts(self):
        rows = [could(0, [0, 6, 1, 4, 8, 8]), lasts(4, 5), could(0, [0, 6, 1, 4, 8, 8]), lasts(4, 4),
                could(0, [0, 6, 1, 4, 8, 8])]
        self.assertEqual(after(SIX, *rows), [[1, 8], [4], [0, 8], [5], [1, 8]])

    def test_times_of_the_greatest(self):
        self.assertEqual(run(BEGIN, [1, 0, 20], [1, 0, 20], could(0, [0, GREATEST, GREATEST - 20]),
                             could(0, [0, GREATEST, GREATEST - 19]), could(0, [0, GREATEST - 20, GREATEST]))[3:],
                         [[1, GREATEST], [0, GREATEST], [1, GREATEST]])


if __name__ == "__main__":
    unittest.main()
