"""What the tests share: calls by their names, and answers taken apart call by call."""

from callslast.tree import answers

GREATEST = 4294967295

BEGIN = [0]
DROP = [2]


def join(p, n):
    return [1, p, n]


def lasts(p, n):
    return [3, p, n]


def hours(p):
    return [4, p]


def plan(p):
    return [5, p]


def order(p, s):
    return [6, p, s]


def could(p, times):
    return [7, p, len(times)] + list(times)


def by(p, h):
    return [8, p, h]


def part(p, q):
    return [9, p, q]


def apart(given):
    """The answers, a list for each call."""
    found = []
    place = 0
    while place < len(given):
        end = place + 1 + given[place]
        if given[place] < 1 or end > len(given):
            raise AssertionError("a count that does not fit at %d of %r" % (place, given))
        found.append(given[place + 1:end])
        place = end
    return found


def run(*calls):
    """Makes these calls on one new object: a list of answers, one list for each call."""
    found = apart(answers([number for call in calls for number in call]))
    if len(found) != len(calls):
        raise AssertionError("%d calls, but %d answers" % (len(calls), len(found)))
    return found


def grown(*joins):
    """The calls that make a tree: begin, then a join for each pair of whom and how long."""
    return [BEGIN] + [join(p, n) for p, n in joins]


def after(built, *calls):
    """What these calls answer once the tree is built."""
    return run(*built, *calls)[len(built):]


def look(count):
    """Calls that show the whole tree: who is joined, how long each call lasts, and each plan."""
    people = range(count + 1)
    return [part(p, q) for p in people for q in people] + [plan(p) for p in people]


ROW = grown(*[(i - 1, i) for i in range(1, 12)])
STAR = grown(*[(0, i) for i in range(1, 12)])

# 5 -2- 1 -5- 0 -1- 2, and 2 -3- 3, 2 -4- 4.
SIX = grown((0, 5), (0, 1), (2, 3), (2, 4), (1, 2))
