"""By trial over many small trees: what holds over the whole program, a to f, and the calls against the words."""

import itertools
import random
import unittest

from lines import (ALL_FROM, BEGIN, BEST, DROP, GREATEST, STATE, after, bound, by, call, could, grown, hours, join,
                   lasts, look, near, ones, order, part, plan, quicker, run, short, way)
from words import (all_ones, greatest_bound, lengths_of, need, need_called_so, shapes, shortest_first, some_tree, trees,
                   way_between, ways_of_calling)


def small_trees():
    """All small ones with few lengths, and some of up to twelve people."""
    for count in (1, 2, 3, 4):
        yield from trees(count, (1, 2, 5))
    chance = random.Random(20)
    for uppers in shapes(5):
        for most in (2, 4, 20):
            yield [(upper, chance.randint(1, most)) for upper in uppers]
    for trial in range(60):
        joins = some_tree(chance, chance.randint(6, 12))
        if trial % 2 == 0:
            joins = [(upper, 1 + length % 3) for upper, length in joins]
        yield joins


def of_each(joins, made):
    """What this call answers of each person."""
    return after(grown(*joins), *[made(p) for p in range(len(joins) + 1)])


class ByNoPlanSooner(unittest.TestCase):
    """a, told by best, all and short, too; b and c against every order of calling."""

    def check(self, joins):
        people = range(len(joins) + 1)
        soonest = []
        for p in people:
            rows = list(ways_of_calling(joins, p))
            soonest.append(min(max(times) for times in rows))
            told = after(grown(*joins), plan(p))[0]
            self.assertEqual(told[0], soonest[p], (joins, p))
            self.assertEqual(max(told[1:]), soonest[p], (joins, p))
        least = min(soonest)
        self.assertEqual(after(grown(*joins), ALL_FROM, BEST),
                         [[len(people)] + soonest, [least] + [p for p in people if soonest[p] == least]], joins)
        self.assertEqual([answer[0] for answer in of_each(joins, bound)], soonest, joins)
        for answer, much in zip(of_each(joins, short), soonest):
            self.assertEqual(answer[1], much, joins)
            self.assertGreaterEqual(answer[0], much, joins)
        in_ones = [min(max(times) for times in ways_of_calling(all_ones(joins), p)) for p in people]
        self.assertEqual(of_each(joins, ones), [[much] for much in in_ones], joins)

    def test_up_to_four_people(self):
        for count in (1, 2, 3, 4):
            for joins in trees(count, (1, 2, 5)):
                self.check(joins)

    def test_five_and_six_people(self):
        chance = random.Random(56)
        for count in (5, 6):
            for uppers in shapes(count):
                self.check([(upper, chance.randint(1, 20)) for upper in uppers])

    def test_seven_people(self):
        chance = random.Random(77)
        for trial in range(40):
            self.check(some_tree(chance, 7))


class BySets(unittest.TestCase):
    """b."""

    def test_bound_against_every_set(self):
        for joins in small_trees():
            self.assertEqual(of_each(joins, bound), [greatest_bound(joins, p) for p in range(len(joins) + 1)], joins)

    def test_bound_is_what_hours_tells(self):
        for joins in small_trees():
            self.assertEqual([answer[:1] for answer in of_each(joins, bound)], of_each(joins, hours), joins)

    def test_stars_with_alike_bounds(self):
        # Parts that need 0 to 3 with calls of 1 and 2, so that alike bounds are many.
        chance = random.Random(33)
        for trial in range(150):
            middle = [(0, chance.randint(1, 2)) for i in range(chance.randint(1, 6))]
            joins = middle + [(i + 1, chance.randint(1, 3)) for i in range(len(middle)) if chance.random() < 0.7]
            joins = joins[:11]
            self.assertEqual(after(grown(*joins), bound(0)), [greatest_bound(joins, 0)], joins)


class WhereEachLastsOne(unittest.TestCase):
    """c."""

    def test_ones_is_what_hours_tells_then(self):
        for joins in small_trees():
            told = of_each(joins, ones)
            self.assertEqual(told, of_each(all_ones(joins), hours), joins)
            self.assertEqual(told, of_each(all_ones(joins), ones), joins)

    def test_ones_after_lasts_of_1(self):
        chance = random.Random(3)
        for trial in range(40):
            joins = some_tree(chance, chance.randint(2, 12))
            people = range(len(joins) + 1)
            made = [ones(p) for p in people] + [lasts(p, 1) for p in people[1:]] + [hours(p) for p in people]
            answered = after(grown(*joins), *made)
            self.assertEqual(answered[:len(people)], answered[-len(people):], joins)


class Joined(unittest.TestCase):
    """d, and near, call, state and way against the words."""

    def test_two_who_are_joined(self):
        for joins in small_trees():
            late = after(grown(*joins), ALL_FROM)[0][1:]
            for (one, another), length in lengths_of(joins).items():
                self.assertEqual(after(grown(*joins), call(one, another)), [[length]], joins)
                self.assertLessEqual(abs(late[one] - late[another]), length, (joins, one, another))

    def test_nobody_is_told_sooner_than_the_way_is_long(self):
        for joins in small_trees():
            people = range(len(joins) + 1)
            for p in people:
                answered = after(grown(*joins), plan(p), *[way(p, q) for q in people])
                for q in people:
                    self.assertGreaterEqual(answered[0][1 + q], answered[1 + q][0], (joins, p, q))

    def test_way_against_the_words(self):
        for joins in small_trees():
            people = range(len(joins) + 1)
            pairs = list(itertools.product(people, people))
            self.assertEqual(after(grown(*joins), *[way(p, q) for p, q in pairs]),
                             [way_between(joins, p, q) for p, q in pairs], joins)

    def test_near_and_state(self):
        for joins in small_trees():
            lengths = lengths_of(joins)
            nears = [sorted(other for one, other in lengths if one == p) for p in range(len(joins) + 1)]
            self.assertEqual(of_each(joins, near), [[len(others)] + others for others in nears], joins)
            told = [len(joins) + 1] + [upper for upper, length in joins] + [length for upper, length in joins]
            self.assertEqual(after(grown(*joins), STATE), [told], joins)

    def test_call_of_all_pairs(self):
        for joins in small_trees():
            lengths = lengths_of(joins)
            pairs = list(itertools.product(range(len(joins) + 1), repeat=2))
            self.assertEqual(after(grown(*joins), *[call(p, q) for p, q in pairs]),
                             [[lengths.get(pair, -22)] for pair in pairs], joins)


class Best(unittest.TestCase):
    def test_whom_the_best_one_calls_first_is_as_good(self):
        for joins in small_trees():
            told = after(grown(*joins), BEST)[0]
            self.assertEqual(told[1:], sorted(told[1:]), joins)
            for p in told[1:]:
                first = need(joins, p, None)[1][:1]
                self.assertLessEqual(set(first), set(told[1:]), (joins, p))

    def test_best_and_all_tell_what_hours_tells(self):
        for joins in small_trees():
            late = [answer[0] for answer in of_each(joins, hours)]
            best = [p for p in range(len(late)) if late[p] == min(late)]
            self.assertEqual(after(grown(*joins), ALL_FROM, BEST), [[len(late)] + late, [min(late)] + best], joins)


class Short(unittest.TestCase):
    def test_short_against_the_words(self):
        for joins in small_trees():
            told = [[need_called_so(joins, p, shortest_first(joins, p)), need(joins, p, None)[0]]
                    for p in range(len(joins) + 1)]
            self.assertEqual(of_each(joins, short), told, joins)


class Shorter(unittest.TestCase):
    """e."""

    def test_a_shorter_call_never_makes_it_later(self):
        chance = random.Random(8)
        for trial in range(100):
            joins = some_tree(chance, chance.randint(2, 12))
            who = chance.randint(1, len(joins))
            start = chance.randint(0, len(joins))
            answered = after(grown(*joins), *[quicker(who, n, start) for n in range(1, 21)])
            late = [answer[0] for answer in answered]
            self.assertEqual(late, sorted(late), (joins, who, start))
            as_it_is = late[joins[who - 1][1] - 1]
            self.assertEqual([answer[1] for answer in answered], [as_it_is] * 20, (joins, who, start))

    def test_quicker_is_what_hours_tells_after_lasts(self):
        for joins in small_trees():
            if len(joins) == 0:
                continue
            people = range(len(joins) + 1)
            for who, n in ((1, 1), (len(joins), 20), (len(joins), 2)):
                made = [quicker(who, n, p) for p in people] + [hours(p) for p in people]
                answered = after(grown(*joins), *made, lasts(who, n), *[hours(p) for p in people])
                before = answered[len(people):2 * len(people)]
                behind = answered[2 * len(people) + 1:]
                self.assertEqual(answered[:len(people)], [one + other for one, other in zip(behind, before)], joins)

    def test_quicker_against_the_words(self):
        chance = random.Random(9)
        for trial in range(100):
            joins = some_tree(chance, chance.randint(2, 9))
            who = chance.randint(1, len(joins))
            n = chance.randint(1, 20)
            start = chance.randint(0, len(joins))
            changed = list(joins)
            changed[who - 1] = (joins[who - 1][0], n)
            self.assertEqual(after(grown(*joins), quicker(who, n, start)),
                             [[need(changed, start, None)[0], need(joins, start, None)[0]]], (joins, who, n, start))


# Only calls whose number is below this one change the object.
CHANGING = 4


def some_call(chance, number):
    """A call of this number with arguments that are often right and at times far off."""
    p, q = [chance.choice((0, 1, 2, 3, 4, 5, 6, 7, 11, 12, GREATEST)) for place in range(2)]
    n = chance.choice((0, 1, 2, 3, 5, 8, 19, 20, 21, GREATEST))
    times = [chance.randint(0, 40) for place in range(chance.randint(0, 14))]
    made = (BEGIN, join(p, n), DROP, lasts(p, n), hours(p), plan(p), order(p, q), could(p, times), by(p, n), part(p, q),
            call(p, q), way(p, q), bound(p), BEST, ALL_FROM, quicker(p, n, q), short(p), ones(p), near(p), STATE)
    return made[number]


def some_line(chance, count):
    """Calls of all numbers; joins are more and begins fewer, so that trees grow."""
    weights = [1, 40, 4, 8] + [5] * 16
    return [some_call(chance, number) for number in chance.choices(range(20), weights, k=count)]


class WhatIsRefused(unittest.TestCase):
    """f, and that each line is answered to its end."""

    def test_lines_without_what_was_refused(self):
        chance = random.Random(6)
        numbers = {}
        for trial in range(60):
            ahead = [some_call(chance, number) for number in range(1, 20)]
            line = ahead + [BEGIN] + some_line(chance, 380)
            answered = run(*line)
            self.assertEqual(len(answered), 400)
            self.assertEqual(answered[:20], [[-11]] * 19 + [[0]])
            for made, answer in zip(line, answered):
                numbers.setdefault(made[0], []).append(answer[0])
            kept = [(made, answer) for made, answer in zip(line, answered) if answer[0] >= 0]
            self.assertEqual(run(*[made for made, answer in kept]), [answer for made, answer in kept])
        # The trial is worth something only if each call was both answered and, where it can be, refused.
        for number in range(20):
            self.assertGreater(max(numbers[number]), -1, number)
        for number, due in ((1, (-2, -11, -22, -28)), (2, (-6, -11)), (3, (-2, -11, -22)), (10, (-2, -11, -22)),
                            (11, (-2, -11)), (12, (-2, -11)), (13, (-11,)), (14, (-11,)), (15, (-2, -11, -22)),
                            (16, (-2, -11)), (17, (-2, -11)), (18, (-2, -11)), (19, (-11,))):
            self.assertEqual({answer for answer in numbers[number] if answer < 0}, set(due), number)

    def test_lines_without_what_only_asks(self):
        chance = random.Random(16)
        for trial in range(60):
            line = [BEGIN] + some_line(chance, 190)
            changing = [made for made in line if made[0] < CHANGING]
            self.assertEqual(run(*line, *look(12))[len(line):], run(*changing, *look(12))[len(changing):])


if __name__ == "__main__":
    unittest.main()
