"""The document's words, worked out plainly and without the program, over trees that are lists of joins.

A tree's list of joins has a pair for each person but the first: to whom they were joined, and how long that call lasts.
"""

import itertools


def shapes(count):
    """Of each tree of so many people, to whom each but the first was joined."""
    return itertools.product(*[range(i) for i in range(1, count)])


def trees(count, lengths):
    for uppers in shapes(count):
        for chosen in itertools.product(lengths, repeat=count - 1):
            yield list(zip(uppers, chosen))


def some_tree(chance, count):
    return [(chance.randrange(i), chance.randint(1, 20)) for i in range(1, count)]


def lengths_of(joins):
    """How long the call of each two lasts, either way round."""
    found = {}
    for i, (upper, length) in enumerate(joins, start=1):
        found[upper, i] = length
        found[i, upper] = length
    return found


def tellers(joins, start):
    """Of each but start, which neighbour is nearer to start."""
    lengths = lengths_of(joins)
    found = {}
    reached = [start]
    for person in reached:
        for one, other in lengths:
            if one == person and other != start and other not in found:
                found[other] = person
                reached.append(other)
    return found


def ways_of_calling(joins, start):
    """The row of times of each order of calling there is, everybody calling as soon as they can."""
    lengths = lengths_of(joins)
    nearer = tellers(joins, start)
    people = range(len(joins) + 1)
    told = [[other for other in people if nearer.get(other) == person] for person in people]
    for orders in itertools.product(*[list(itertools.permutations(others)) for others in told]):
        times = [0] * len(people)
        reached = [start]
        for person in reached:
            ended = times[person]
            for other in orders[person]:
                ended += lengths[person, other]
                times[other] = ended
                reached.append(other)
        yield times


def could_be(joins, start, times):
    """A row of times that could be so, word by word."""
    lengths = lengths_of(joins)
    nearer = tellers(joins, start)
    if times[start] != 0:
        return 0
    for other, person in nearer.items():
        if times[other] < times[person] + lengths[person, other]:
            return 0
    for one, another in itertools.combinations(nearer, 2):
        if nearer[one] == nearer[another]:
            begun = times[one] - lengths[nearer[one], one]
            other_begun = times[another] - lengths[nearer[another], another]
            if not (times[one] <= other_begun or times[another] <= begun):
                return 0
    return 1


def need(joins, person, teller):
    """What a part needs, word by word; and those called, in order."""
    lengths = lengths_of(joins)
    parts = [(need(joins, other, person)[0], other)
             for one, other in lengths if one == person and other != teller]
    called = sorted([other for needs, other in parts])
    needs = {other: much for much, other in parts}
    called.sort(key=lambda other: needs[other], reverse=True)
    told = list(itertools.accumulate([lengths[person, other] for other in called]))
    return max([time + needs[other] for time, other in zip(told, called)], default=0), called


def all_ones(joins):
    return [(upper, 1) for upper, length in joins]


def need_called_so(joins, start, called):
    """When all know, from start, who calls in this order; all others call as in the plan."""
    lengths = lengths_of(joins)
    told = itertools.accumulate([lengths[start, other] for other in called])
    return max([time + need(joins, other, start)[0] for time, other in zip(told, called)], default=0)


def shortest_first(joins, start):
    lengths = lengths_of(joins)
    return [other for length, other in sorted((lengths[start, other], other) for other in need(joins, start, None)[1])]


def bounds(joins, person):
    """Of each set of those whom person calls, a tuple in the order in which they're called, its bound."""
    lengths = lengths_of(joins)
    called = need(joins, person, None)[1]
    needs = {other: need(joins, other, person)[0] for other in called}
    found = {}
    for many in range(len(called) + 1):
        for chosen in itertools.combinations(called, many):
            found[chosen] = sum(lengths[person, other] for other in chosen) + min([needs[other] for other in chosen],
                                                                                  default=0)
    return found


def told_of_two(one, another, called):
    """Of two sets with alike bounds the one that's told."""
    last = [other for other in called if (other in one) != (other in another)][-1]
    return another if last in one else one


def greatest_bound(joins, person):
    """The greatest bound, and the set that's told."""
    found = bounds(joins, person)
    greatest = max(found.values())
    called = need(joins, person, None)[1]
    told = None
    for chosen in found:
        if found[chosen] == greatest:
            told = chosen if told is None else told_of_two(told, chosen, called)
    return [greatest] + list(told)


def way_between(joins, one, another):
    """How long the calls on the way last together, and how many they are."""
    lengths = lengths_of(joins)
    nearer = tellers(joins, another)
    lasted = []
    while one != another:
        lasted.append(lengths[one, nearer[one]])
        one = nearer[one]
    return [sum(lasted), len(lasted)]
