"""The calls on one set of systems, and what they answer."""

SYSTEM = 0
GONE = 1
BEFORE = 2
FREE = 3
ORDER = 4
ROUNDS = 5

MOST_SYSTEMS = 10
HIGHEST_COST = 999
HIGHEST_KIND = 15

WRONG_SYSTEM = -1
NOT_THERE = -2
WOULD_BE_RING = -3
TOLD_ALREADY = -4
TOO_MANY = -5


class UnknownCall(ValueError):
    """A call's number is none of those that are answered."""


class Reader:
    """Goes through the list of calls from its beginning to its end, and only reads it."""

    def __init__(self, calls):
        self.calls = calls
        self.place = 0

    def is_over(self):
        return self.place >= len(self.calls)

    def take_number(self):
        number = self.calls[self.place]
        self.place = self.place + 1
        return number

    def take_row(self):
        size = self.take_number()
        row = self.calls[self.place:self.place + size]
        self.place = self.place + size
        return row


class System:
    """What one system costs, and which kinds it reads and writes."""

    def __init__(self, cost, reads, writes):
        self.cost = cost
        self.reads = reads
        self.writes = writes

    def touches(self, kind):
        return kind in self.reads or kind in self.writes


def clash(one, other):
    """Whether one of two systems writes a kind that the other reads or writes."""
    for kind in one.writes:
        if other.touches(kind):
            return True
    for kind in other.writes:
        if one.touches(kind):
            return True
    return False


def kinds_are_right(kinds):
    """Whether each kind is above the one before it, and none is above the highest."""
    before = -1
    for kind in kinds:
        if kind <= before or kind > HIGHEST_KIND:
            return False
        before = kind
    return True


def cost_is_right(cost):
    return 1 <= cost and cost <= HIGHEST_COST


class Plan:
    """The systems that there are, by number, and the pairs that are told."""

    def __init__(self):
        # Counted apart from the systems, as a number isn't given again when its system is gone.
        self.numbers_given = 0
        self.systems = {}
        self.pairs = []

    def add_system(self, cost, reads, writes):
        if not (cost_is_right(cost) and kinds_are_right(reads) and kinds_are_right(writes)):
            return [WRONG_SYSTEM]
        if len(self.systems) >= MOST_SYSTEMS:
            return [TOO_MANY]
        number = self.numbers_given
        self.systems[number] = System(cost, reads, writes)
        self.numbers_given = number + 1
        return [number]

    def remove_system(self, number):
        if number not in self.systems:
            return [NOT_THERE]
        self.systems.pop(number)
        self.pairs = [pair for pair in self.pairs if number not in pair]
        return [len(self.systems), len(self.pairs)]

    def tell_pair(self, first, second):
        if first not in self.systems or second not in self.systems:
            return [NOT_THERE]
        if first == second or self.comes_before(second, first):
            return [WOULD_BE_RING]
        if (first, second) in self.pairs:
            return [TOLD_ALREADY]
        self.pairs.append((first, second))
        return [len(self.pairs)]

    def free_pair(self, first, second):
        if (first, second) not in self.pairs:
            return [NOT_THERE]
        self.pairs.remove((first, second))
        return [len(self.pairs)]

    def comes_before(self, first, second):
        """Whether the first is told to come before the second, by what's between too."""
        reached = [first]
        place = 0
        while place < len(reached):
            for earlier, later in self.pairs:
                if earlier == reached[place] and later not in reached:
                    reached.append(later)
            place = place + 1
        return second in reached[1:]

    def next_in_order(self, placed):
        """The lowest number of those ahead of which all are placed that are told to be."""
        waiting = [later for earlier, later in self.pairs if earlier not in placed]
        return min([number for number in self.systems if number not in placed and number not in waiting])

    def in_order(self):
        placed = []
        while len(placed) < len(self.systems):
            placed.append(self.next_in_order(placed))
        return placed

    def must_be_over(self, earlier, later):
        """Whether one must be over before another one that's behind it in order."""
        return self.comes_before(earlier, later) or clash(self.systems[earlier], self.systems[later])

    def first_round(self, rounds, number):
        """The first round behind all of those in rounds that must be over before this one."""
        found = 0
        for place, members in enumerate(rounds):
            if any([self.must_be_over(earlier, number) for earlier in members]):
                found = place + 1
        return found

    def in_rounds(self):
        rounds = []
        for number in self.in_order():
            place = self.first_round(rounds, number)
            if place == len(rounds):
                rounds.append([])
            rounds[place].append(number)
        return rounds


def with_count(numbers):
    return [len(numbers)] + numbers


def rounds_answer(rounds):
    answer = [len(rounds)]
    for members in rounds:
        answer.extend(with_count(members))
    return answer


def system_answer(plan, reader):
    cost = reader.take_number()
    reads = reader.take_row()
    writes = reader.take_row()
    return plan.add_system(cost, reads, writes)


def pair_answer(plan, reader, call):
    first = reader.take_number()
    second = reader.take_number()
    if call == BEFORE:
        return plan.tell_pair(first, second)
    return plan.free_pair(first, second)


def call_answer(plan, reader):
    """Reads one call and gives back the numbers that it answers."""
    call = reader.take_number()
    if call == SYSTEM:
        return system_answer(plan, reader)
    if call == GONE:
        return plan.remove_system(reader.take_number())
    if call == BEFORE or call == FREE:
        return pair_answer(plan, reader, call)
    if call == ORDER:
        return with_count(plan.in_order())
    if call == ROUNDS:
        return rounds_answer(plan.in_rounds())
    raise UnknownCall(f"call {call} is not answered")


def answers(calls):
    """The answers to all calls, in order, each with its count ahead of it."""
    plan = Plan()
    reader = Reader(calls)
    given = []
    while not reader.is_over():
        given.extend(with_count(call_answer(plan, reader)))
    return given
