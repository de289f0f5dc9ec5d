"""The calls on one set of systems, and what they answer."""

SYSTEM = 0
GONE = 1
BEFORE = 2
FREE = 3
ORDER = 4
ROUNDS = 5
UNTOLD = 6
WAY = 7
TIME = 8
APART = 9
SYSTEMS = 10

MOST_SYSTEMS = 10
HIGHEST_COST = 999
HIGHEST_KIND = 15

WRONG_SYSTEM = -1
NOT_THERE = -2
WOULD_BE_RING = -3
TOLD_ALREADY = -4
TOO_MANY = -5
NO_ROW = -6

FIRST_BEFORE_SECOND = 1
SECOND_BEFORE_FIRST = 2
NOT_TOLD = 0


class UnknownCall(ValueError):
    """A call's number is none of 0 to 10."""


class Reader:
    """Goes through the list of calls from its beginning to its end, and only reads it."""

    def __init__(self, calls):
        self.calls = calls
        self.place = 0

    def is_over(self):
        return self.place >= len(self.calls)

    def take_number(self):
        number = self.calls[self.place]
        self.place = self.place + 1
        return number

    def take_row(self):
        size = self.take_number()
        row = self.calls[self.place:self.place + size]
        self.place = self.place + size
        return row


class System:
    """What one system costs, and which kinds it reads and writes."""

    def __init__(self, cost, reads, writes):
        self.cost = cost
        self.reads = reads
        self.writes = writes

    def touches(self, kind):
        return kind in self.reads or kind in self.writes


def clash_for(one, other, kind):
    """Whether one of two systems writes this kind and the other reads or writes it."""
    return (kind in one.writes and other.touches(kind)) or (kind in other.writes and one.touches(kind))


def clash_kinds(one, other):
    """The kinds for which two systems clash, rising."""
    return [kind for kind in range(HIGHEST_KIND + 1) if clash_for(one, other, kind)]


def clash(one, other):
    return len(clash_kinds(one, other)) > 0


def kinds_are_right(kinds):
    """Whether each kind is above the one before it, and none is above the highest."""
    before = -1
    for kind in kinds:
        if kind <= before or kind > HIGHEST_KIND:
            return False
        before = kind
    return True


def cost_is_right(cost):
    return 1 <= cost and cost <= HIGHEST_COST


def with_count(numbers):
    return [len(numbers)] + numbers


class Plan:
    """The systems that there are, by number, and the pairs that are told."""

    def __init__(self):
        # Counted apart from the systems, as a number isn't given again when its system is gone.
        self.numbers_given = 0
        self.systems = {}
        self.pairs = []

    def add_system(self, cost, reads, writes):
        if not (cost_is_right(cost) and kinds_are_right(reads) and kinds_are_right(writes)):
            return [WRONG_SYSTEM]
        if len(self.systems) >= MOST_SYSTEMS:
            return [TOO_MANY]
        number = self.numbers_given
        self.systems[number] = System(cost, reads, writes)
        self.numbers_given = number + 1
        return [number]

    def remove_system(self, number):
        if number not in self.systems:
            return [NOT_THERE]
        self.systems.pop(number)
        self.pairs = [pair for pair in self.pairs if number not in pair]
        return [len(self.systems), len(self.pairs)]

    def tell_pair(self, first, second):
        if first not in self.systems or second not in self.systems:
            return [NOT_THERE]
        if first == second or self.comes_before(second, first):
            return [WOULD_BE_RING]
        if (first, second) in self.pairs:
            return [TOLD_ALREADY]
        self.pairs.append((first, second))
        return [len(self.pairs)]

    def free_pair(self, first, second):
        if (first, second) not in self.pairs:
            return [NOT_THERE]
        self.pairs.remove((first, second))
        return [len(self.pairs)]

    def way(self, first, second):
        if first not in self.systems or second not in self.systems or first == second:
            return [NOT_THERE]
        steps = self.steps_to(second)
        if first not in steps:
            return [NO_ROW]
        return with_count(self.shortest_row(first, steps))

    def apart(self, first, second):
        if first not in self.systems or second not in self.systems:
            return [NOT_THERE]
        kinds = clash_kinds(self.systems[first], self.systems[second])
        return [self.told_order(first, second)] + with_count(kinds)

    def comes_before(self, first, second):
        """Whether the first is told to come before the second, by what's between too."""
        return first != second and first in self.steps_to(second)

    def told_order(self, first, second):
        """Which of the two is told to come before the other, by what's between too."""
        if self.comes_before(first, second):
            return FIRST_BEFORE_SECOND
        if self.comes_before(second, first):
            return SECOND_BEFORE_FIRST
        return NOT_TOLD

    def steps_to(self, last):
        """How many pairs the shortest row to the last has, for each system from which there is one."""
        steps = {last: 0}
        reached = [last]
        place = 0
        while place < len(reached):
            for earlier, later in self.pairs:
                if later == reached[place] and earlier not in steps:
                    steps[earlier] = steps[later] + 1
                    reached.append(earlier)
            place = place + 1
        return steps

    def shortest_row(self, first, steps):
        """The row along which the steps fall to 0 one by one, by the lowest number at each place."""
        row = [first]
        left = steps[first]
        while left > 0:
            left = left - 1
            followers = [later for earlier, later in self.pairs if earlier == row[-1]]
            row.append(min([number for number in followers if steps.get(number) == left]))
        return row

    def is_untold(self, one, other):
        return clash(self.systems[one], self.systems[other]) and self.told_order(one, other) == NOT_TOLD

    def untold_pairs(self):
        found = []
        numbers = sorted(self.systems)
        for place, lower in enumerate(numbers):
            for higher in numbers[place + 1:]:
                if self.is_untold(lower, higher):
                    found.append((lower, higher))
        return found

    def next_in_order(self, placed):
        """The lowest number of those ahead of which all are placed that are told to be."""
        waiting = [later for earlier, later in self.pairs if earlier not in placed]
        return min([number for number in self.systems if number not in placed and number not in waiting])

    def in_order(self):
        placed = []
        while len(placed) < len(self.systems):
            placed.append(self.next_in_order(placed))
        return placed

    def must_be_over(self, earlier, later):
        """Whether one must be over before another one that's behind it in order."""
        return self.comes_before(earlier, later) or clash(self.systems[earlier], self.systems[later])

    def first_round(self, rounds, number):
        """The first round behind all of those in rounds that must be over before this one."""
        found = 0
        for place, members in enumerate(rounds):
            if any([self.must_be_over(earlier, number) for earlier in members]):
                found = place + 1
        return found

    def in_rounds(self):
        rounds = []
        for number in self.in_order():
            place = self.first_round(rounds, number)
            if place == len(rounds):
                rounds.append([])
            rounds[place].append(number)
        return rounds


class Times:
    """When each system begins and is over, and which must be over before it; entered in order."""

    def __init__(self):
        self.order = []
        self.needs = {}
        self.begins = {}
        self.ends = {}

    def enter(self, number, needs, cost):
        begin = max([self.ends[earlier] for earlier in needs], default=0)
        self.order.append(number)
        self.needs[number] = needs
        self.begins[number] = begin
        self.ends[number] = begin + cost

    def tick_length(self):
        return max([self.ends[number] for number in self.order], default=0)

    def over_at(self, numbers, moment):
        return [number for number in numbers if self.ends[number] == moment]

    def chain(self):
        """From a system that began at 0 to the one that's over last."""
        backwards = []
        links = self.over_at(self.order, self.tick_length())
        # Each costs 1 or more, so nothing is over at 0: for one that began then no further link is found.
        while len(links) > 0:
            link = links[0]
            backwards.append(link)
            links = self.over_at(self.needs[link], self.begins[link])
        return list(reversed(backwards))


def times_of(plan):
    times = Times()
    for number in plan.in_order():
        needs = [earlier for earlier in times.order if plan.must_be_over(earlier, number)]
        times.enter(number, needs, plan.systems[number].cost)
    return times


def rounds_answer(rounds):
    answer = [len(rounds)]
    for members in rounds:
        answer.extend(with_count(members))
    return answer


def untold_answer(pairs):
    answer = [len(pairs)]
    for lower, higher in pairs:
        answer.extend([lower, higher])
    return answer


def time_answer(times):
    return [times.tick_length()] + with_count(times.chain())


def system_answer(plan, reader):
    cost = reader.take_number()
    reads = reader.take_row()
    writes = reader.take_row()
    return plan.add_system(cost, reads, writes)


def pair_answer(plan, reader, call):
    """The answer to a call on two systems."""
    first = reader.take_number()
    second = reader.take_number()
    if call == BEFORE:
        return plan.tell_pair(first, second)
    if call == FREE:
        return plan.free_pair(first, second)
    if call == WAY:
        return plan.way(first, second)
    return plan.apart(first, second)


def whole_answer(plan, call):
    """The answer to a call that asks about all systems."""
    if call == ORDER:
        return with_count(plan.in_order())
    if call == ROUNDS:
        return rounds_answer(plan.in_rounds())
    if call == UNTOLD:
        return untold_answer(plan.untold_pairs())
    if call == TIME:
        return time_answer(times_of(plan))
    if call == SYSTEMS:
        return with_count(sorted(plan.systems))
    raise UnknownCall(f"there is no call {call}")


def call_answer(plan, reader):
    """Reads one call and gives back the numbers that it answers."""
    call = reader.take_number()
    if call == SYSTEM:
        return system_answer(plan, reader)
    if call == GONE:
        return plan.remove_system(reader.take_number())
    if call in (BEFORE, FREE, WAY, APART):
        return pair_answer(plan, reader, call)
    return whole_answer(plan, call)


def answers(calls):
    """The answers to all calls, in order, each with its count ahead of it."""
    plan = Plan()
    reader = Reader(calls)
    given = []
    while not reader.is_over():
        given.extend(with_count(call_answer(plan, reader)))
    return given
