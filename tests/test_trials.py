"""By trial over many small trees: hours, plan and could against every order of calling and every row of times."""

import itertools
import random
import unittest

from lines import GREATEST, after, by, could, grown, hours, lasts, order, part, plan
from words import could_be, lengths_of, need, shapes, some_tree, tellers, trees, ways_of_calling


class EveryOrder(unittest.TestCase):
    def check(self, joins):
        people = range(len(joins) + 1)
        answered = after(grown(*joins), *[hours(p) for p in people], *[plan(p) for p in people])
        for p in people:
            rows = list(ways_of_calling(joins, p))
            self.assertEqual(answered[p], [min(max(times) for times in rows)], (joins, p))
            told = answered[len(people) + p]
            self.assertEqual(told[0], answered[p][0], (joins, p))
            self.assertEqual(max(told[1:]), told[0], (joins, p))
            self.assertIn(told[1:], rows, (joins, p))
            self.assertEqual(after(grown(*joins), could(p, told[1:])), [[1, told[0]]], (joins, p))

    def test_up_to_four_people(self):
        for count in (1, 2, 3, 4):
            for joins in trees(count, (1, 2, 3, 7)):
                self.check(joins)

    def test_five_people(self):
        for joins in trees(5, (1, 2, 5)):
            self.check(joins)

    def test_six_people(self):
        chance = random.Random(6)
        for uppers in shapes(6):
            self.check([(upper, chance.randint(1, 20)) for upper in uppers])
            self.check([(upper, chance.randint(1, 3)) for upper in uppers])

    def test_seven_and_eight_people(self):
        chance = random.Random(78)
        for trial in range(60):
            self.check(some_tree(chance, 7))
            self.check(some_tree(chance, 8))


class EveryRow(unittest.TestCase):
    def test_could_by_every_row_and_none_sooner_than_hours(self):
        for count in (1, 2, 3, 4):
            for joins in trees(count, (1, 2)):
                people = range(count)
                built = grown(*joins)
                for p in people:
                    most = after(built, hours(p))[0][0]
                    rows = [list(row) for row in itertools.product(range(most + 2), repeat=count) if row[p] < 2]
                    found = {}
                    for first in range(0, len(rows), 380):
                        some = rows[first:first + 380]
                        for times, answer in zip(some, after(built, *[could(p, times) for times in some])):
                            self.assertEqual(answer, [could_be(joins, p, times), max(times)], (joins, p, times))
                            found[answer[1]] = found.get(answer[1], 0) + answer[0]
                    self.assertEqual(min(h for h in found if found[h]), most, (joins, p))

    def test_could_beside_the_plan(self):
        chance = random.Random(12)
        for trial in range(150):
            count = chance.randint(2, 12)
            joins = some_tree(chance, count)
            p = chance.randrange(count)
            times = after(grown(*joins), plan(p))[0][1:]
            rows = [times]
            for who in range(count):
                for more in (-1, 1, 20):
                    rows.append(times[:who] + [max(0, times[who] + more)] + times[who + 1:])
            one = chance.choice(rows)
            rows.append([time + 100 if time > chance.randrange(50) else time for time in one])
            found = after(grown(*joins), *[could(p, row) for row in rows])
            self.assertEqual(found, [[could_be(joins, p, row), max(row)] for row in rows], (joins, p))


class Larger(unittest.TestCase):
    def test_up_to_twelve_people(self):
        chance = random.Random(2)
        for trial in range(60):
            count = chance.randint(8, 12)
            joins = some_tree(chance, count)
            if trial % 3 == 0:
                joins = [(upper, 1 + length % 2) for upper, length in joins]
            lengths = lengths_of(joins)
            built = grown(*joins)
            for p in range(count):
                self.assertEqual(after(built, hours(p)), [[need(joins, p, None)[0]]], (joins, p))
                called = need(joins, p, None)[1]
                self.assertEqual(after(built, order(p, p)), [[len(called)] + called], (joins, p))
                told = after(built, plan(p))[0]
                self.assertEqual(told[0], max(told[1:]))
                self.assertEqual(after(built, could(p, told[1:])), [[1, told[0]]])
                for h in (0, told[0] // 2, told[0] - 1, told[0], GREATEST):
                    self.assertEqual(after(built, by(p, h)), [[len([time for time in told[1:] if time <= h])]])
            for one, other in lengths:
                much = need(joins, other, one)[0]
                self.assertEqual(after(built, part(one, other)), [[much, lengths[one, other]]], (joins, one, other))
                called = need(joins, one, other)[1]
                self.assertEqual(after(built, order(one, other)), [[len(called)] + called], (joins, one, other))


class WhatHolds(unittest.TestCase):
    def test_two_who_are_joined_differ_by_their_call_at_most(self):
        chance = random.Random(4)
        for trial in range(100):
            joins = some_tree(chance, chance.randint(2, 12))
            for i, (upper, length) in enumerate(joins, start=1):
                found = after(grown(*joins), hours(i), hours(upper))
                self.assertLessEqual(abs(found[0][0] - found[1][0]), length, (joins, i))

    def test_nobody_is_told_sooner_than_the_way_is_long(self):
        chance = random.Random(5)
        for trial in range(100):
            count = chance.randint(1, 12)
            joins = some_tree(chance, count)
            lengths = lengths_of(joins)
            start = chance.randrange(count)
            times = after(grown(*joins), plan(start))[0][1:]
            nearer = tellers(joins, start)
            for who in range(count):
                way = 0
                at = who
                while at != start:
                    way += lengths[at, nearer[at]]
                    at = nearer[at]
                self.assertGreaterEqual(times[who], way, (joins, start, who))

    def test_a_shorter_call_never_makes_it_later(self):
        chance = random.Random(7)
        for trial in range(60):
            count = chance.randint(2, 12)
            joins = some_tree(chance, count)
            who = chance.randrange(1, count)
            start = chance.randrange(count)
            calls = []
            for n in range(20, 0, -1):
                calls += [lasts(who, n), hours(start)]
            found = after(grown(*joins), *calls)
            late = [answer[0] for answer in found[1::2]]
            self.assertEqual(late, sorted(late, reverse=True), (joins, who, start))
            self.assertEqual([answer[0] for answer in found[2::2]], list(range(20, 1, -1)))


if __name__ == "__main__":
    unittest.main()
