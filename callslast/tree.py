"""The calls on one tree of people: who is joined, how long calls last, when all know and by which plan."""

NONE_SUCH = -2
ONLY_ONE = -6
NOT_BEGUN = -11
NOT_SO = -22
TOO_MANY = -28

MOST_PEOPLE = 12
LONGEST_CALL = 20
NOBODY = -1

BEGIN = 0
COULD = 7

# How many whole numbers each call has, by the call's number; of could without its row.
# All calls stand here, since before a begin each of them is read and refused.
ARGUMENT_COUNTS = (0, 2, 0, 2, 1, 1, 2, 1, 2, 2, 2, 2, 1, 0, 0, 3, 1, 1, 1, 0)


class Tree:
    """Of each person, to whom they were joined and how long that call lasts; empty before a begin."""

    def __init__(self):
        self.uppers = []
        self.lengths = []


def is_person(tree, number):
    return number < len(tree.uppers)


def are_people(tree, one, another):
    return is_person(tree, one) and is_person(tree, another)


def is_length(number):
    return number >= 1 and number <= LONGEST_CALL


def are_joined(tree, one, another):
    return tree.uppers[one] == another or tree.uppers[another] == one


def call_length(tree, one, another):
    # Of two who are joined the later one was joined to the earlier one, and so bears their call.
    return tree.lengths[max(one, another)]


def others_joined(tree, person, teller):
    """Those whom person is joined with but for the teller, rising."""
    return [other for other in range(len(tree.uppers)) if other != teller and are_joined(tree, person, other)]


def parts_in_order(tree, person, teller):
    """Pairs of one whom person calls and what that one's part needs, in the order of calling."""
    # The need stands in the pair so that each part is gone through once only.
    pairs = [(other, part_need(tree, other, person)) for other in others_joined(tree, person, teller)]
    return sorted(pairs, key=lambda pair: (-pair[1], pair[0]))


def part_need(tree, person, teller):
    """How long it takes, once person knows, till all know whom one comes to by them from the teller."""
    needed = 0
    ended = 0
    for pair in parts_in_order(tree, person, teller):
        ended += call_length(tree, person, pair[0])
        needed = max(needed, ended + pair[1])
    return needed


def calling_order(tree, person, teller):
    return [pair[0] for pair in parts_in_order(tree, person, teller)]


def tell_part(tree, person, teller, times):
    """Put into times when each of person's part is told; person's own time is there already."""
    ended = times[person]
    for other in calling_order(tree, person, teller):
        ended += call_length(tree, person, other)
        times[other] = ended
        tell_part(tree, other, person, times)


def plan_times(tree, start):
    times = [0] * len(tree.uppers)
    tell_part(tree, start, NOBODY, times)
    return times


def part_could(tree, person, teller, times):
    """Whether the calls within person's part could be at these times."""
    told = others_joined(tree, person, teller)
    # As each call lasts 1 at least, of two calls by one person only the one that ends later can be behind.
    free = times[person]
    for other in sorted(told, key=lambda one: times[one]):
        if times[other] - call_length(tree, person, other) < free:
            return False
        free = times[other]
    return all([part_could(tree, other, person, times) for other in told])


def begin(tree, arguments):
    tree.uppers = [NOBODY]
    tree.lengths = [0]
    return [0]


def join(tree, arguments):
    person = arguments[0]
    length = arguments[1]
    if not is_person(tree, person):
        return [NONE_SUCH]
    if not is_length(length):
        return [NOT_SO]
    if len(tree.uppers) == MOST_PEOPLE:
        return [TOO_MANY]
    tree.uppers.append(person)
    tree.lengths.append(length)
    return [len(tree.uppers) - 1]


def drop(tree, arguments):
    if len(tree.uppers) == 1:
        return [ONLY_ONE]
    tree.uppers.pop()
    tree.lengths.pop()
    return [len(tree.uppers)]


def lasts(tree, arguments):
    person = arguments[0]
    length = arguments[1]
    # The first person was joined to nobody, so there is no call to be told of.
    if person == 0 or not is_person(tree, person):
        return [NONE_SUCH]
    if not is_length(length):
        return [NOT_SO]
    before = tree.lengths[person]
    tree.lengths[person] = length
    return [before]


def hours(tree, arguments):
    person = arguments[0]
    if not is_person(tree, person):
        return [NONE_SUCH]
    return [part_need(tree, person, NOBODY)]


def plan(tree, arguments):
    person = arguments[0]
    if not is_person(tree, person):
        return [NONE_SUCH]
    return [part_need(tree, person, NOBODY)] + plan_times(tree, person)


def order(tree, arguments):
    person = arguments[0]
    teller = arguments[1]
    if not are_people(tree, person, teller):
        return [NONE_SUCH]
    if person == teller:
        called = calling_order(tree, person, NOBODY)
    elif are_joined(tree, person, teller):
        called = calling_order(tree, person, teller)
    else:
        return [NOT_SO]
    return [len(called)] + called


def could(tree, arguments):
    person = arguments[0]
    # Between the person and the times stands how many times there are.
    times = arguments[2:]
    if not is_person(tree, person):
        return [NONE_SUCH]
    if len(times) != len(tree.uppers):
        return [NOT_SO]
    if times[person] == 0 and part_could(tree, person, NOBODY, times):
        return [1, max(times)]
    return [0, max(times)]


def by(tree, arguments):
    person = arguments[0]
    hour = arguments[1]
    if not is_person(tree, person):
        return [NONE_SUCH]
    return [len([told for told in plan_times(tree, person) if told <= hour])]


def part(tree, arguments):
    person = arguments[0]
    another = arguments[1]
    if not are_people(tree, person, another):
        return [NONE_SUCH]
    if not are_joined(tree, person, another):
        return [NOT_SO]
    return [part_need(tree, another, person), call_length(tree, person, another)]


# By the call's number.
HANDLERS = (begin, join, drop, lasts, hours, plan, order, could, by, part)


def answer_one(tree, number, arguments):
    if number != BEGIN and len(tree.uppers) == 0:
        return [NOT_BEGUN]
    if number >= len(HANDLERS):
        raise NotImplementedError("this call is not there yet")
    return HANDLERS[number](tree, arguments)


def end_of_call(calls, place):
    """Where the call that begins at place ends in the list: the place behind its last number."""
    end = place + 1 + ARGUMENT_COUNTS[calls[place]]
    if calls[place] == COULD:
        end += 1 + calls[end]
    return end


def answers(calls):
    tree = Tree()
    given = []
    place = 0
    while place < len(calls):
        end = end_of_call(calls, place)
        answer = answer_one(tree, calls[place], calls[place + 1:end])
        given.append(len(answer))
        given.extend(answer)
        place = end
    return given
