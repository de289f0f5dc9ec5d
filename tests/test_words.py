"""Many sets of systems, held against the document's words written down another way."""

import itertools
import random
import unittest

from tests.asking import (
    ORDER, ROUNDS, SYSTEMS, TIME, UNTOLD, apart, ask, before, free, gone, rounds_of, system, way)

LINES = 300


class Words:
    """Systems, pairs and refusals as the words tell them, by sets and trying out."""

    def __init__(self):
        self.next_number = 0
        self.systems = {}
        self.costs = {}
        self.pairs = set()

    def system(self, cost, reads, writes):
        for kinds in (reads, writes):
            if kinds != sorted(set(kinds)) or not set(kinds) <= set(range(16)):
                return [-1]
        if cost not in range(1, 1000):
            return [-1]
        if len(self.systems) == 10:
            return [-5]
        self.systems[self.next_number] = (set(reads), set(writes))
        self.costs[self.next_number] = cost
        self.next_number += 1
        return [self.next_number - 1]

    def gone(self, number):
        if number not in self.systems:
            return [-2]
        del self.systems[number]
        self.pairs = {pair for pair in self.pairs if number not in pair}
        return [len(self.systems), len(self.pairs)]

    def told(self):
        """All pairs that are told, by what's between too."""
        found = set(self.pairs)
        for between, first, last in itertools.product(self.systems, repeat=3):
            if (first, between) in found and (between, last) in found:
                found.add((first, last))
        return found

    def before(self, first, second):
        if not {first, second} <= set(self.systems):
            return [-2]
        if first == second or (second, first) in self.told():
            return [-3]
        if (first, second) in self.pairs:
            return [-4]
        self.pairs.add((first, second))
        return [len(self.pairs)]

    def free(self, first, second):
        if (first, second) not in self.pairs:
            return [-2]
        self.pairs.discard((first, second))
        return [len(self.pairs)]

    def in_order(self):
        left = sorted(self.systems)
        found = []
        while left:
            chosen = [number for number in left if not any((other, number) in self.pairs for other in left)][0]
            left.remove(chosen)
            found.append(chosen)
        return found

    def clash(self, one, other):
        """The kinds for which they clash."""
        reads, writes = self.systems[one]
        others_reads, others_writes = self.systems[other]
        return writes & (others_reads | others_writes) | others_writes & (reads | writes)

    def needs(self):
        """Of each system, in order: those that must be over before it, in order."""
        told = self.told()
        order = self.in_order()
        return {number: [other for other in order[:at] if (other, number) in told or self.clash(other, number)]
                for at, number in enumerate(order)}

    def in_rounds(self):
        place = {}
        for number, must in self.needs().items():
            place[number] = 1 + max([place[other] for other in must], default=-1)
        count = 1 + max(place.values(), default=-1)
        return [[number for number in place if place[number] == turn] for turn in range(count)]

    def rounds(self):
        rounds = self.in_rounds()
        return [len(rounds)] + [number for members in rounds for number in [len(members)] + members]

    def order(self):
        return [len(self.systems)] + self.in_order()

    def untold(self):
        told = self.told()
        found = [(low, high) for low, high in itertools.combinations(sorted(self.systems), 2)
                 if self.clash(low, high) and not {(low, high), (high, low)} & told]
        return [len(found)] + [number for pair in found for number in pair]

    def way(self, first, second):
        if first == second or not {first, second} <= set(self.systems):
            return [-2]
        rows = [(first,)]
        while rows:
            arrived = [row for row in rows if row[-1] == second]
            if arrived:
                return [len(arrived[0])] + list(min(arrived))
            rows = [row + (later,) for row in rows for earlier, later in self.pairs if earlier == row[-1]]
        return [-6]

    def time_over(self, number, needs):
        """What the costliest of all rows costs that end with it, in which each waits for the one before it."""
        costs = []
        rows = [(number,)]
        while rows:
            costs += [sum(self.costs[member] for member in row) for row in rows]
            rows = [row + (other,) for row in rows for other in needs[row[-1]]]
        return max(costs)

    def time(self):
        needs = self.needs()
        over = {number: self.time_over(number, needs) for number in needs}
        lasts = max(over.values(), default=0)
        chain = [number for number in over if over[number] == lasts][:1]
        while chain and over[chain[0]] != self.costs[chain[0]]:
            began = over[chain[0]] - self.costs[chain[0]]
            chain.insert(0, [other for other in needs[chain[0]] if over[other] == began][0])
        return [lasts, len(chain)] + chain

    def apart(self, first, second):
        if not {first, second} <= set(self.systems):
            return [-2]
        told = self.told()
        kinds = sorted(self.clash(first, second))
        return [1 if (first, second) in told else 2 if (second, first) in told else 0, len(kinds)] + kinds

    def all_systems(self):
        return [len(self.systems)] + sorted(self.systems)


def some_kinds(chance):
    kinds = sorted(chance.sample(range(16), chance.choice((0, 0, 1, 1, 2, 3))))
    if chance.random() < 0.05:
        kinds.append(chance.choice((0, 15, 16, 4294967295)))
    return kinds


def some_call(chance, words):
    """A call and the answer that the words ask for."""
    name = chance.choice(("system", "system", "gone", "free", "order", "rounds", "untold", "way", "way", "time",
                          "time", "apart", "apart", "systems") + ("before",) * 9)
    number = chance.randrange(words.next_number + 2)
    other = chance.randrange(words.next_number + 2)
    if name == "system":
        cost = chance.choice((0, 1, 7, 999, 1000)) if chance.random() < 0.2 else chance.randrange(1, 1000)
        reads, writes = some_kinds(chance), some_kinds(chance)
        return system(cost, reads, writes), words.system(cost, reads, writes)
    if name == "gone":
        # Rarely of one that is there, or too few systems would be left.
        number = number if chance.random() < 0.3 else words.next_number
        return gone(number), words.gone(number)
    if name == "before":
        return before(number, other), words.before(number, other)
    if name == "free":
        return free(number, other), words.free(number, other)
    if name == "way":
        return way(number, other), words.way(number, other)
    if name == "apart":
        return apart(number, other), words.apart(number, other)
    if name == "order":
        return ORDER, words.order()
    if name == "rounds":
        return ROUNDS, words.rounds()
    if name == "untold":
        return UNTOLD, words.untold()
    if name == "time":
        return TIME, words.time()
    return SYSTEMS, words.all_systems()


def some_line(chance, begin, count):
    """Calls, of which the first are systems, the answers that the words ask for, and what there is then."""
    words = Words()
    calls = []
    wanted = []
    for place in range(begin):
        reads = sorted(chance.sample(range(16), chance.randrange(3)))
        writes = sorted(chance.sample(range(16), chance.randrange(3)))
        # Low costs, so that many are over at the same time.
        cost = chance.randrange(1, 4)
        calls.append(system(cost, reads, writes))
        wanted.append(words.system(cost, reads, writes))
    while len(calls) < count:
        call, answer = some_call(chance, words)
        calls.append(call)
        wanted.append(answer)
    return words, calls, wanted


def run(words, row):
    """The world after the systems of a row, where each writes what tells it and all that it read."""
    world = {kind: kind for kind in range(16)}
    for number in row:
        reads, writes = words.systems[number]
        seen = tuple(world[kind] for kind in sorted(reads))
        for kind in writes:
            world[kind] = hash((number, kind, seen, world[kind]))
    return world


def row_that_keeps(chance, numbers, pairs):
    """All numbers in a row by chance, in which the first of each of the pairs is ahead of the second."""
    left = list(numbers)
    row = []
    while left:
        row.append(chance.choice([number for number in left if not any((other, number) in pairs for other in left)]))
        left.remove(row[-1])
    return row


class AgainstTheWords(unittest.TestCase):
    def test_many_lines(self):
        chance = random.Random(92)
        for line in range(LINES):
            words, calls, wanted = some_line(chance, line % 11, 40)
            self.assertEqual(ask(*calls), wanted, calls)

    def test_ways_among_many_pairs(self):
        chance = random.Random(7)
        for line in range(LINES):
            words = Words()
            calls = [system() for place in range(10)]
            wanted = [words.system(1, [], []) for place in range(10)]
            row = chance.sample(range(10), 10)
            pairs = [(first, second) for at, first in enumerate(row) for second in row[at + 1:at + 5]]
            for first, second in chance.sample(pairs, 20):
                calls.append(before(first, second))
                wanted.append(words.before(first, second))
            for place in range(10):
                at = chance.randrange(3)
                calls.append(way(row[at], row[-1 - place % 4]))
                wanted.append(words.way(row[at], row[-1 - place % 4]))
            self.assertEqual(ask(*calls), wanted, calls)

    def test_rounds_are_as_few_as_can_be(self):
        # Were each to cost 1, the tick would last as many rounds as wait for one another.
        chance = random.Random(15)
        for line in range(LINES):
            words, calls, wanted = some_line(chance, 8, 39)
            words.costs = dict.fromkeys(words.costs, 1)
            self.assertEqual(ask(*calls, ROUNDS)[-1][0], words.time()[0], calls)

    def test_all_pairs_whose_order_matters_though_nobody_told_it_are_told(self):
        chance = random.Random(58)
        for line in range(LINES):
            words, calls, wanted = some_line(chance, 8, 38)
            found = ask(*calls, ORDER, UNTOLD)
            order = found[-2][1:]
            untold = list(zip(found[-1][1::2], found[-1][2::2]))
            kept = words.told() | {tuple(sorted(pair, key=order.index)) for pair in untold}
            for turn in range(3):
                # Whatever is neither told nor untold may be turned round: the world is the same.
                self.assertEqual(run(words, row_that_keeps(chance, order, kept)), run(words, order), calls)

    def test_round_by_round_the_world_is_that_of_all_in_order(self):
        chance = random.Random(29)
        for line in range(LINES):
            words, calls, wanted = some_line(chance, 8, 38)
            found = ask(*calls, ORDER, ROUNDS)
            order, rounds = found[-2][1:], rounds_of(found[-1])
            world = run(words, order)
            for turn in range(3):
                # Beside one another: whichever of a round is first.
                row = [number for members in rounds for number in chance.sample(members, len(members))]
                self.assertEqual(sorted(row), sorted(order))
                self.assertEqual(run(words, row), world, calls)


if __name__ == "__main__":
    unittest.main()
