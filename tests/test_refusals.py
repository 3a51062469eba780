"""What call, way, bound, quicker, short, ones and near refuse, and that best, all and state refuse nothing."""

import unittest

from lines import (ALL_FROM, BEGIN, BEST, DROP, GREATEST, MIXED, ROW, SIX, STAR, STATE, after, bound, call, grown,
                   hours, join, lasts, near, ones, plan, quicker, refused, run, short, way)

SOME = (grown(), grown((0, 3)), SIX, ROW, STAR)


def no_people(built):
    """Numbers that are no people in this tree, from the least on."""
    count = len(built)
    return (count, count + 1, 13, 255, 256, 65536, 2147483648, GREATEST - 1, GREATEST)


class NoSuchPerson(unittest.TestCase):
    def test_of_one_person(self):
        for built in SOME:
            for none in no_people(built):
                for made in (bound(none), short(none), ones(none), near(none)):
                    refused(self, built, made, -2)

    def test_of_two_people(self):
        for built in SOME:
            last = len(built) - 1
            for none in no_people(built):
                for made in (call(none, 0), call(0, none), call(last, none), call(none, none),
                             way(none, 0), way(0, none), way(last, none), way(none, none)):
                    refused(self, built, made, -2)

    def test_of_quicker(self):
        for built in SOME:
            last = len(built) - 1
            for none in no_people(built):
                for made in (quicker(none, 1, 0), quicker(none, 1, last), quicker(last, 1, none),
                             quicker(none, 20, none)):
                    refused(self, built, made, -2)

    def test_of_quicker_the_first(self):
        for built in SOME:
            for start in range(len(built)):
                refused(self, built, quicker(0, 1, start), -2)
                refused(self, built, quicker(0, 20, start), -2)
        # From the first is another thing.
        self.assertEqual(after(SIX, quicker(1, 5, 0)), [[8, 8]])

    def test_the_dropped_one(self):
        asked = [call(1, 5), way(5, 5), bound(5), quicker(5, 1, 0), quicker(1, 1, 5), short(5), ones(5), near(5)]
        self.assertEqual(after(SIX, DROP, *asked), [[5]] + [[-2]] * 8)

    def test_after_a_second_begin(self):
        asked = [call(0, 1), way(0, 1), bound(1), quicker(1, 1, 0), short(1), ones(1), near(1)]
        self.assertEqual(after(SIX, BEGIN, *asked), [[0]] + [[-2]] * 7)


class NotSo(unittest.TestCase):
    def test_call_of_people_who_are_not_joined(self):
        joined = [(0, 1), (0, 2), (2, 3), (2, 4), (1, 5)]
        for p in range(6):
            for q in range(6):
                if (p, q) not in joined and (q, p) not in joined:
                    refused(self, SIX, call(p, q), -22)
        for p, q in ((0, 2), (2, 0), (0, 11), (11, 0), (5, 7)):
            refused(self, ROW, call(p, q), -22)
        for p, q in ((1, 2), (11, 10), (10, 11)):
            refused(self, STAR, call(p, q), -22)

    def test_call_with_themselves(self):
        for built in SOME:
            for p in range(len(built)):
                refused(self, built, call(p, p), -22)

    def test_quicker_where_n_is_not_1_to_20(self):
        for n in (0, 21, 22, 256, 257, 2147483648, GREATEST):
            refused(self, grown((0, 3)), quicker(1, n, 0), -22)
            refused(self, grown((0, 3)), quicker(1, n, 1), -22)
            for p in (1, 5):
                refused(self, SIX, quicker(p, n, 3), -22)
            refused(self, ROW, quicker(11, n, 0), -22)
            refused(self, STAR, quicker(4, n, 4), -22)


class TheOneToldFirst(unittest.TestCase):
    def test_quicker(self):
        for n in (0, 21, GREATEST):
            for built in SOME:
                last = len(built) - 1
                for none in no_people(built):
                    refused(self, built, quicker(none, n, 0), -2)
                    refused(self, built, quicker(last, n, none), -2)
                    refused(self, built, quicker(none, n, none), -2)
                    refused(self, built, quicker(0, n, none), -2)
                refused(self, built, quicker(0, n, 0), -2)
                refused(self, built, quicker(0, n, last), -2)

    def test_before_a_begin_it_is_11(self):
        calls = [call(0, 0), call(GREATEST, GREATEST), way(0, 1), bound(1), quicker(0, 0, 0), quicker(1, 21, GREATEST),
                 short(GREATEST), ones(12), near(12), BEST, ALL_FROM, STATE]
        self.assertEqual(run(*calls), [[-11]] * 12)
        self.assertEqual(run(*calls, BEGIN, STATE, ALL_FROM), [[-11]] * 12 + [[0], [1], [1, 0]])


class NothingRefused(unittest.TestCase):
    def test_best_all_and_state(self):
        for built in SOME + (MIXED,):
            for answer in after(built, BEST, ALL_FROM, STATE):
                self.assertGreaterEqual(answer[0], 0)

    def test_after_refusals(self):
        wrong = [join(9, 9), join(0, 0), lasts(0, 5), lasts(1, 21), call(3, 4), quicker(1, 0, 0), near(6)]
        self.assertEqual(after(SIX, *wrong, BEST, ALL_FROM, STATE, hours(0), plan(0)),
                         [[-2], [-22], [-2], [-22], [-22], [-22], [-2], [8, 0, 2], [6, 8, 13, 8, 11, 12, 15],
                          [6, 0, 0, 2, 2, 1, 5, 1, 3, 4, 2], [8], [8, 0, 6, 1, 4, 8, 8]])


if __name__ == "__main__":
    unittest.main()
