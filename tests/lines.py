"""What the tests share: calls by their names, and answers taken apart call by call."""

from callslast.tree import answers

GREATEST = 4294967295

BEGIN = [0]
DROP = [2]
BEST = [13]
ALL_FROM = [14]
STATE = [19]


def join(p, n):
    return [1, p, n]


def lasts(p, n):
    return [3, p, n]


def hours(p):
    return [4, p]


def plan(p):
    return [5, p]


def order(p, s):
    return [6, p, s]


def could(p, times):
    return [7, p, len(times)] + list(times)


def by(p, h):
    return [8, p, h]


def part(p, q):
    return [9, p, q]


def call(p, q):
    return [10, p, q]


def way(p, q):
    return [11, p, q]


def bound(p):
    return [12, p]


def quicker(p, n, q):
    return [15, p, n, q]


def short(p):
    return [16, p]


def ones(p):
    return [17, p]


def near(p):
    return [18, p]


def apart(given):
    """The answers, a list for each call."""
    found = []
    place = 0
    while place < len(given):
        end = place + 1 + given[place]
        if given[place] < 1 or end > len(given):
            raise AssertionError("a count that does not fit at %d of %r" % (place, given))
        found.append(given[place + 1:end])
        place = end
    return found


def run(*calls):
    """Makes these calls on one new object: a list of answers, one list for each call."""
    found = apart(answers([number for call in calls for number in call]))
    if len(found) != len(calls):
        raise AssertionError("%d calls, but %d answers" % (len(calls), len(found)))
    return found


def grown(*joins):
    """The calls that make a tree: begin, then a join for each pair of whom and how long."""
    return [BEGIN] + [join(p, n) for p, n in joins]


def after(built, *calls):
    """What these calls answer once the tree is built."""
    return run(*built, *calls)[len(built):]


def look(count):
    """Calls that show the whole tree: who is joined, how long each call lasts, and each plan."""
    people = range(count + 1)
    return [STATE] + [part(p, q) for p in people for q in people] + [plan(p) for p in people]


def refused(case, built, made, number):
    """That the call made is refused so, and leaves the tree as it was."""
    seen = after(built, *look(len(built)))
    case.assertEqual(after(built, made, *look(len(built))), [[number]] + seen, made)


ROW = grown(*[(i - 1, i) for i in range(1, 12)])
STAR = grown(*[(0, i) for i in range(1, 12)])

# 5 -2- 1 -5- 0 -1- 2, and 2 -3- 3, 2 -4- 4.
SIX = grown((0, 5), (0, 1), (2, 3), (2, 4), (1, 2))

# 0 -20- 1, and 0 -1- 2 -1- 3: a long call to a short part.
LONG = grown((0, 20), (0, 1), (2, 1))

# 2 -3- 1 -20- 0 -1- 3 -2- 4: from 0 the shortest call first is later.
LATER = grown((0, 20), (1, 3), (0, 1), (3, 2))

# 3 -3- 1 -7- 0 -2- 2 -3- 4: from 0 both parts need 3.
AS_MUCH = grown((0, 7), (0, 2), (1, 3), (2, 3))

# 4 -5- 1 -5- 0 -5- 2 -5- 5, and 0 -5- 3.
ALIKE = grown((0, 5), (0, 5), (0, 5), (1, 5), (2, 5))

# 0 -2- 1, 0 -3- 2, 0 -4- 3; 1 -5- 4 -10- 10, 1 -6- 5; 2 -7- 6 -8- 7; 3 -9- 8, 3 -1- 9 -11- 11.
# Seen from 0, 1's part needs 15 (4's needs 10), 2's needs 15 (6's needs 8), 3's needs 12 (9's needs 11).
MIXED = grown((0, 2), (0, 3), (0, 4), (1, 5), (1, 6), (2, 7), (6, 8), (3, 9), (3, 1), (4, 10), (9, 11))
