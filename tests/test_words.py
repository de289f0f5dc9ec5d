"""Many sets of systems, held against the document's words written down another way."""

import itertools
import random
import unittest

from tests.asking import ORDER, ROUNDS, ask, before, free, gone, rounds_of, system

LINES = 300


class Words:
    """Systems, pairs and refusals as the words tell them, by sets and trying out."""

    def __init__(self):
        self.next_number = 0
        self.systems = {}
        self.pairs = set()

    def system(self, cost, reads, writes):
        for kinds in (reads, writes):
            if kinds != sorted(set(kinds)) or not set(kinds) <= set(range(16)):
                return [-1]
        if cost not in range(1, 1000):
            return [-1]
        if len(self.systems) == 10:
            return [-5]
        self.systems[self.next_number] = (set(reads), set(writes))
        self.next_number += 1
        return [self.next_number - 1]

    def gone(self, number):
        if number not in self.systems:
            return [-2]
        del self.systems[number]
        self.pairs = {pair for pair in self.pairs if number not in pair}
        return [len(self.systems), len(self.pairs)]

    def told(self):
        """All pairs that are told, by what's between too."""
        found = set(self.pairs)
        for between, first, last in itertools.product(self.systems, repeat=3):
            if (first, between) in found and (between, last) in found:
                found.add((first, last))
        return found

    def before(self, first, second):
        if not {first, second} <= set(self.systems):
            return [-2]
        if first == second or (second, first) in self.told():
            return [-3]
        if (first, second) in self.pairs:
            return [-4]
        self.pairs.add((first, second))
        return [len(self.pairs)]

    def free(self, first, second):
        if (first, second) not in self.pairs:
            return [-2]
        self.pairs.discard((first, second))
        return [len(self.pairs)]

    def in_order(self):
        left = sorted(self.systems)
        found = []
        while left:
            chosen = [number for number in left if not any((other, number) in self.pairs for other in left)][0]
            left.remove(chosen)
            found.append(chosen)
        return found

    def clash(self, one, other):
        reads, writes = self.systems[one]
        others_reads, others_writes = self.systems[other]
        return bool(writes & (others_reads | others_writes) or others_writes & reads)

    def in_rounds(self):
        told = self.told()
        order = self.in_order()
        place = {}
        for at, number in enumerate(order):
            must = [other for other in order[:at] if (other, number) in told or self.clash(other, number)]
            place[number] = 1 + max([place[other] for other in must], default=-1)
        count = 1 + max(place.values(), default=-1)
        return [[number for number in order if place[number] == turn] for turn in range(count)]


def some_kinds(chance):
    kinds = sorted(chance.sample(range(16), chance.choice((0, 0, 1, 1, 2, 3))))
    if chance.random() < 0.05:
        kinds.append(chance.choice((0, 15, 16, 4294967295)))
    return kinds


def some_call(chance, words):
    """A call and the answer that the words ask for."""
    name = chance.choice(("system", "system", "gone", "free", "order", "rounds") + ("before",) * 4)
    number = chance.randrange(words.next_number + 2)
    other = chance.randrange(words.next_number + 2)
    if name == "system":
        cost = chance.choice((0, 1, 7, 999, 1000)) if chance.random() < 0.2 else chance.randrange(1, 1000)
        reads, writes = some_kinds(chance), some_kinds(chance)
        return system(cost, reads, writes), words.system(cost, reads, writes)
    if name == "gone":
        # Rarely of one that is there, or too few systems would be left.
        number = number if chance.random() < 0.3 else words.next_number
        return gone(number), words.gone(number)
    if name == "before":
        return before(number, other), words.before(number, other)
    if name == "free":
        return free(number, other), words.free(number, other)
    if name == "order":
        return ORDER, [len(words.systems)] + words.in_order()
    rounds = words.in_rounds()
    return ROUNDS, [len(rounds)] + [number for members in rounds for number in [len(members)] + members]


def some_line(chance, begin, count):
    """Calls, of which the first are systems, the answers that the words ask for, and what there is then."""
    words = Words()
    calls = []
    wanted = []
    for place in range(begin):
        reads = sorted(chance.sample(range(16), chance.randrange(3)))
        writes = sorted(chance.sample(range(16), chance.randrange(3)))
        calls.append(system(1, reads, writes))
        wanted.append(words.system(1, reads, writes))
    while len(calls) < count:
        call, answer = some_call(chance, words)
        calls.append(call)
        wanted.append(answer)
    return words, calls, wanted


def run(words, row):
    """The world after the systems of a row, where each writes what tells it and all that it read."""
    world = {kind: kind for kind in range(16)}
    for number in row:
        reads, writes = words.systems[number]
        seen = tuple(world[kind] for kind in sorted(reads))
        for kind in writes:
            world[kind] = hash((number, kind, seen, world[kind]))
    return world


class AgainstTheWords(unittest.TestCase):
    def test_many_lines(self):
        chance = random.Random(92)
        for line in range(LINES):
            words, calls, wanted = some_line(chance, line % 11, 40)
            self.assertEqual(ask(*calls), wanted, calls)

    def test_round_by_round_the_world_is_that_of_all_in_order(self):
        chance = random.Random(29)
        for line in range(LINES):
            words, calls, wanted = some_line(chance, 8, 38)
            found = ask(*calls, ORDER, ROUNDS)
            order, rounds = found[-2][1:], rounds_of(found[-1])
            world = run(words, order)
            for turn in range(3):
                # Beside one another: whichever of a round is first.
                row = [number for members in rounds for number in chance.sample(members, len(members))]
                self.assertEqual(sorted(row), sorted(order))
                self.assertEqual(run(words, row), world, calls)


if __name__ == "__main__":
    unittest.main()
