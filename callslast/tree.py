"""The calls on one tree of people: who is joined, how long calls last, when all know and by which plan."""

NONE_SUCH = -2
ONLY_ONE = -6
NOT_BEGUN = -11
NOT_SO = -22
TOO_MANY = -28

MOST_PEOPLE = 12
LONGEST_CALL = 20
NOBODY = -1

BEGIN = 0
COULD = 7

# How many whole numbers each call has, by the call's number; of could without its row.
ARGUMENT_COUNTS = (0, 2, 0, 2, 1, 1, 2, 1, 2, 2, 2, 2, 1, 0, 0, 3, 1, 1, 1, 0)

# At which places among these numbers people stand, by the call's number.
PEOPLE_PLACES = (
    (), (0,), (), (0,), (0,), (0,), (0, 1), (0,), (0,), (0, 1),
    (0, 1), (0, 1), (0,), (), (), (0, 2), (0,), (0,), (0,), (),
)


class Tree:
    """Of each person, to whom they were joined and how long that call lasts; empty before a begin."""

    def __init__(self):
        self.uppers = []
        self.lengths = []


def is_person(tree, number):
    return number < len(tree.uppers)


def is_length(number):
    return number >= 1 and number <= LONGEST_CALL


def are_joined(tree, one, another):
    return tree.uppers[one] == another or tree.uppers[another] == one


def call_length(tree, one, another):
    # Of two who are joined the later one was joined to the earlier one, and so bears their call.
    return tree.lengths[max(one, another)]


def others_joined(tree, person, teller):
    """Those whom person is joined with but for the teller, rising."""
    return [other for other in range(len(tree.uppers)) if other != teller and are_joined(tree, person, other)]


def parts_in_order(tree, person, teller):
    """Pairs of one whom person calls and what that one's part needs, in the order of calling."""
    # The need stands in the pair so that each part is gone through once only.
    pairs = [(other, part_need(tree, other, person)) for other in others_joined(tree, person, teller)]
    return sorted(pairs, key=lambda pair: (-pair[1], pair[0]))


def need_in_order(tree, person, pairs):
    """How long it takes, once person knows, till the parts of these pairs know, called in the pairs' order."""
    needed = 0
    ended = 0
    for pair in pairs:
        ended += call_length(tree, person, pair[0])
        needed = max(needed, ended + pair[1])
    return needed


def part_need(tree, person, teller):
    """How long it takes, once person knows, till all know whom one comes to by them from the teller."""
    return need_in_order(tree, person, parts_in_order(tree, person, teller))


def need_from(tree, start):
    return part_need(tree, start, NOBODY)


def needs_from_each(tree):
    return [need_from(tree, start) for start in range(len(tree.uppers))]


def calling_order(tree, person, teller):
    return [pair[0] for pair in parts_in_order(tree, person, teller)]


def tell_part(tree, person, teller, times):
    """Put into times when each of person's part is told; person's own time is there already."""
    ended = times[person]
    for other in calling_order(tree, person, teller):
        ended += call_length(tree, person, other)
        times[other] = ended
        tell_part(tree, other, person, times)


def plan_times(tree, start):
    times = [0] * len(tree.uppers)
    tell_part(tree, start, NOBODY, times)
    return times


def part_could(tree, person, teller, times):
    """Whether the calls within person's part could be at these times."""
    told = others_joined(tree, person, teller)
    # As each call lasts 1 at least, of two calls by one person only the one that ends later can be behind.
    free = times[person]
    for other in sorted(told, key=lambda one: times[one]):
        if times[other] - call_length(tree, person, other) < free:
            return False
        free = times[other]
    return all([part_could(tree, other, person, times) for other in told])


def with_lengths(tree, lengths):
    """Another tree of the same people, whose calls last so long; the tree itself stays as it is."""
    another = Tree()
    another.uppers = list(tree.uppers)
    another.lengths = lengths
    return another


def begin(tree, arguments):
    tree.uppers = [NOBODY]
    tree.lengths = [0]
    return [0]


def join(tree, arguments):
    person = arguments[0]
    length = arguments[1]
    if not is_length(length):
        return [NOT_SO]
    if len(tree.uppers) == MOST_PEOPLE:
        return [TOO_MANY]
    tree.uppers.append(person)
    tree.lengths.append(length)
    return [len(tree.uppers) - 1]


def drop(tree, arguments):
    if len(tree.uppers) == 1:
        return [ONLY_ONE]
    tree.uppers.pop()
    tree.lengths.pop()
    return [len(tree.uppers)]


def lasts(tree, arguments):
    person = arguments[0]
    length = arguments[1]
    # The first person was joined to nobody, so there is no call to be told of.
    if person == 0:
        return [NONE_SUCH]
    if not is_length(length):
        return [NOT_SO]
    before = tree.lengths[person]
    tree.lengths[person] = length
    return [before]


def hours(tree, arguments):
    return [need_from(tree, arguments[0])]


def plan(tree, arguments):
    person = arguments[0]
    return [need_from(tree, person)] + plan_times(tree, person)


def order(tree, arguments):
    person = arguments[0]
    teller = arguments[1]
    if person == teller:
        called = calling_order(tree, person, NOBODY)
    elif are_joined(tree, person, teller):
        called = calling_order(tree, person, teller)
    else:
        return [NOT_SO]
    return [len(called)] + called


def could(tree, arguments):
    person = arguments[0]
    # Between the person and the times stands how many times there are.
    times = arguments[2:]
    if len(times) != len(tree.uppers):
        return [NOT_SO]
    if times[person] == 0 and part_could(tree, person, NOBODY, times):
        return [1, max(times)]
    return [0, max(times)]


def by(tree, arguments):
    person = arguments[0]
    hour = arguments[1]
    return [len([told for told in plan_times(tree, person) if told <= hour])]


def part(tree, arguments):
    person = arguments[0]
    another = arguments[1]
    if not are_joined(tree, person, another):
        return [NOT_SO]
    return [part_need(tree, another, person), call_length(tree, person, another)]


def call(tree, arguments):
    person = arguments[0]
    another = arguments[1]
    if not are_joined(tree, person, another):
        return [NOT_SO]
    return [call_length(tree, person, another)]


def way(tree, arguments):
    one = arguments[0]
    another = arguments[1]
    lasted = 0
    count = 0
    while one != another:
        # Everybody was joined to an earlier one, so from the later of two the way goes on by whom they were joined to.
        later = max(one, another)
        another = min(one, another)
        one = tree.uppers[later]
        lasted += tree.lengths[later]
        count += 1
    return [lasted, count]


def bound(tree, arguments):
    person = arguments[0]
    greatest = 0
    chosen = []
    called = []
    lasted = 0
    # Needs fall along the order, so of the sets with the same last one that with all ahead of them is greatest.
    # Other sets needn't be looked at; of alike ones among these the shortest is asked for, the first that's met.
    for pair in parts_in_order(tree, person, NOBODY):
        called.append(pair[0])
        lasted += call_length(tree, person, pair[0])
        if lasted + pair[1] > greatest:
            greatest = lasted + pair[1]
            chosen = list(called)
    return [greatest] + chosen


def best(tree, arguments):
    needs = needs_from_each(tree)
    least = min(needs)
    return [least] + [start for start in range(len(needs)) if needs[start] == least]


def all_from(tree, arguments):
    needs = needs_from_each(tree)
    return [len(needs)] + needs


def quicker(tree, arguments):
    person = arguments[0]
    length = arguments[1]
    start = arguments[2]
    # As with lasts, the first person was joined to nobody.
    if person == 0:
        return [NONE_SUCH]
    if not is_length(length):
        return [NOT_SO]
    lengths = list(tree.lengths)
    lengths[person] = length
    return [need_from(with_lengths(tree, lengths), start), need_from(tree, start)]


def short(tree, arguments):
    person = arguments[0]
    pairs = parts_in_order(tree, person, NOBODY)
    shortest_first = sorted(pairs, key=lambda pair: (call_length(tree, person, pair[0]), pair[0]))
    return [need_in_order(tree, person, shortest_first), need_in_order(tree, person, pairs)]


def ones(tree, arguments):
    return [need_from(with_lengths(tree, [1] * len(tree.lengths)), arguments[0])]


def near(tree, arguments):
    others = others_joined(tree, arguments[0], NOBODY)
    return [len(others)] + others


def state(tree, arguments):
    return [len(tree.uppers)] + tree.uppers[1:] + tree.lengths[1:]


# By the call's number.
HANDLERS = (
    begin, join, drop, lasts, hours, plan, order, could, by, part,
    call, way, bound, best, all_from, quicker, short, ones, near, state,
)


def are_all_people(tree, number, arguments):
    return all([is_person(tree, arguments[place]) for place in PEOPLE_PLACES[number]])


def answer_one(tree, number, arguments):
    if number != BEGIN and len(tree.uppers) == 0:
        return [NOT_BEGUN]
    # Asked here for all calls alike, since this refusal comes ahead of each call's own.
    if not are_all_people(tree, number, arguments):
        return [NONE_SUCH]
    return HANDLERS[number](tree, arguments)


def end_of_call(calls, place):
    """Where the call that begins at place ends in the list: the place behind its last number."""
    end = place + 1 + ARGUMENT_COUNTS[calls[place]]
    if calls[place] == COULD:
        end += 1 + calls[end]
    return end


def answers(calls):
    tree = Tree()
    given = []
    place = 0
    while place < len(calls):
        end = end_of_call(calls, place)
        answer = answer_one(tree, calls[place], calls[place + 1:end])
        given.append(len(answer))
        given.extend(answer)
        place = end
    return given
