"""What holds of answers as a whole: its form, refusals, and what it leaves alone."""

import contextlib
import inspect
import io
import sys
import unittest

from systemrounds.tick import answers
from tests.asking import (
    ORDER, ROUNDS, SYSTEMS, TIME, TOP, UNTOLD, apart, ask, before, free, gone, joined, plain, split, system, way)

REFUSED = (
    (system(0), [-1]),
    (system(1000, [0]), [-1]),
    (system(1, [16], []), [-1]),
    (system(1, [], [2, 2]), [-1]),
    (system(), [-5]),
    (gone(10), [-2]),
    (gone(TOP), [-2]),
    (before(10, 0), [-2]),
    (before(0, 10), [-2]),
    (before(4, 4), [-3]),
    (before(0, 9), [-3]),
    (before(0, 5), [-3]),
    (before(9, 5), [-4]),
    (free(0, 9), [-2]),
    (free(9, 0), [-2]),
    (free(1, 2), [-2]),
    (way(10, 0), [-2]),
    (way(0, 10), [-2]),
    (way(4, 4), [-2]),
    (way(0, 9), [-6]),
    (way(1, 2), [-6]),
    (apart(10, 0), [-2]),
    (apart(0, TOP), [-2]),
)

# Refused ahead of a full set's further calls, between them and behind them.
ALWAYS_REFUSED = (
    (system(0), [-1]),
    (system(1, [3], [16]), [-1]),
    (gone(TOP), [-2]),
    (before(0, TOP), [-2]),
    (before(4, 4), [-3]),
    (free(4, 4), [-2]),
    (way(TOP, 0), [-2]),
    (way(4, 4), [-2]),
    (way(6, 7), [-6]),
    (apart(0, TOP), [-2]),
)

ASKED_OF_ALL = [ORDER, ROUNDS, UNTOLD, TIME, SYSTEMS]


def full_set():
    """Ten systems, so that a further one is refused, and pairs told: 9, 5, 0."""
    systems = [system(number + 1, [number], [number // 2]) for number in range(10)]
    return systems + [before(9, 5), before(5, 0)]


def refused_calls():
    return [call for call, answer in REFUSED]


def each_call():
    """Each of the eleven calls, behind a full set."""
    return [gone(2), free(9, 5), system(3, [0], [4]), before(9, 10), *ASKED_OF_ALL, way(5, 0), apart(0, 5)]


class Untouchable(list):
    """A list that refuses each change, for a while too."""

    def refuse(self, *rest, **named):
        raise AssertionError("the list handed in was changed")

    __setitem__ = __delitem__ = __iadd__ = __imul__ = refuse
    append = extend = insert = pop = remove = clear = sort = reverse = refuse


class Form(unittest.TestCase):
    def test_each_answer_has_its_count_ahead(self):
        calls = joined([system(5, [1], [2]), system(5, [2], []), before(1, 0), ORDER, ROUNDS, gone(7), gone(0), ROUNDS])
        self.assertEqual(answers(calls), [1, 0, 1, 1, 1, 1, 3, 2, 1, 0, 5, 2, 1, 1, 1, 0, 1, -2, 2, 1, 0, 3, 1, 1, 1])

    def test_each_answer_of_all_eleven_calls_has_its_count_ahead(self):
        found = answers([
            0, 5, 1, 1, 1, 2,
            0, 3, 1, 2, 0,
            0, 4, 0, 2, 1, 2,
            2, 1, 0,
            4,
            5,
            6,
            7, 1, 0,
            7, 0, 1,
            8,
            9, 0, 2,
            9, 0, 1,
            10,
            3, 1, 0,
            1, 1,
            10])
        self.assertEqual(found, [
            1, 0,
            1, 1,
            1, 2,
            1, 1,
            4, 3, 1, 0, 2,
            7, 3, 1, 1, 1, 0, 1, 2,
            5, 2, 0, 2, 1, 2,
            3, 2, 1, 0,
            1, -6,
            5, 12, 3, 1, 0, 2,
            4, 0, 2, 1, 2,
            3, 2, 1, 2,
            4, 3, 0, 1, 2,
            1, 0,
            2, 2, 0,
            3, 2, 0, 2])

    def test_one_call(self):
        self.assertEqual(answers([0, 1, 0, 0]), [1, 0])
        self.assertEqual(answers([1, 0]), [1, -2])
        self.assertEqual(answers([2, 0, 0]), [1, -2])
        self.assertEqual(answers([3, 0, 0]), [1, -2])
        self.assertEqual(answers([4]), [1, 0])
        self.assertEqual(answers([5]), [1, 0])
        self.assertEqual(answers([6]), [1, 0])
        self.assertEqual(answers([7, 0, 0]), [1, -2])
        self.assertEqual(answers([8]), [2, 0, 0])
        self.assertEqual(answers([9, 0, 0]), [1, -2])
        self.assertEqual(answers([10]), [1, 0])

    def test_it_is_a_list_of_whole_numbers(self):
        for calls in (full_set() + refused_calls() + ASKED_OF_ALL, full_set() + each_call()):
            found = answers(joined(calls))
            self.assertIs(type(found), list)
            self.assertEqual({type(number) for number in found}, {int})

    def test_nothing_but_a_refusal_is_below_0(self):
        for answer in ask(*full_set(), *each_call()):
            self.assertGreaterEqual(min(answer), 0, answer)

    def test_rows_are_told_apart_by_their_counts(self):
        # What a row holds may look like calls.
        calls = joined([system(4, [4, 5], [0, 1]), system(5, [5], []), ORDER, system(1, [], [4, 5]), SYSTEMS])
        self.assertEqual(split(answers(calls)), [[0], [1], [2, 0, 1], [2], [3, 0, 1, 2]])

    def test_forty_calls(self):
        calls = full_set() + [ORDER, ROUNDS, free(9, 5), before(9, 5)] * 7
        self.assertEqual(len(calls), 40)
        found = ask(*calls)
        self.assertEqual(found[:12], [[number] for number in range(10)] + [[1], [2]])
        self.assertEqual(found[12][0], 10)
        for turn in range(7):
            self.assertEqual(found[12 + 4 * turn:16 + 4 * turn], [found[12], found[13], [1], [2]])

    def test_forty_calls_with_ten_systems_and_many_pairs(self):
        # Each of the ten writes kind 0 and is told to come before the next, 9 down to 0, and every second one too.
        systems = [system(10 + number, [], [0]) for number in range(10)]
        steps = [before(number + 1, number) for number in range(9)]
        leaps = [before(number + 2, number) for number in range(8)]
        calls = systems + steps + leaps + [way(9, 0), way(8, 1), way(0, 9), apart(9, 0), apart(1, 6), free(5, 4),
                                           apart(5, 4), way(9, 0)] + ASKED_OF_ALL
        self.assertEqual(len(calls), 40)
        found = ask(*calls)
        self.assertEqual(found[:27], [[number] for number in range(10)] + [[count] for count in range(1, 18)])
        self.assertEqual(found[27:35], [[6, 9, 7, 5, 3, 1, 0], [5, 8, 6, 4, 2, 1], [-6], [1, 1, 0], [2, 1, 0], [16],
                                        [0, 1, 0], [6, 9, 7, 5, 3, 1, 0]])
        # Once 5 is freed of 4, 4 is only told to be behind 6, and comes ahead of 5.
        order = [9, 8, 7, 6, 4, 5, 3, 2, 1, 0]
        self.assertEqual(found[35:], [
            [10, *order],
            [10] + [number for member in order for number in (1, member)],
            [1, 4, 5],
            [145, 10, *order],
            [10, *range(10)]])

    def test_forty_calls_as_long_as_can_be(self):
        kinds = list(range(20))
        calls = [system(TOP, kinds, kinds)] * 39 + [ORDER]
        self.assertEqual(ask(*calls), [[-1]] * 39 + [[0]])


class Refusals(unittest.TestCase):
    def test_after_a_refusal_all_is_as_it_was(self):
        # What follows tells the systems, the pairs, how many they are and which number is given next.
        behind = [*ASKED_OF_ALL, before(9, 5), way(9, 0), apart(0, 9), free(9, 5), free(5, 0), gone(3), system(),
                  *ASKED_OF_ALL]
        undisturbed = ask(*full_set(), *behind)
        self.assertEqual(undisturbed[17:24], [[-4], [3, 9, 5, 0], [2, 0], [1], [0], [9, 0], [10]])
        for call, answer in REFUSED:
            found = ask(*full_set(), call, *behind)
            self.assertEqual(found[12], answer, call)
            self.assertEqual(found[:12] + found[13:], undisturbed, call)

    def test_all_eleven_calls_in_one_list_with_refusals_between(self):
        calls = each_call()
        undisturbed = ask(*full_set(), *calls)[12:]
        self.assertEqual(sorted(call[0] for call in calls), list(range(11)))
        for call, answer in ALWAYS_REFUSED:
            between = [both for asked in calls for both in (call, asked)]
            found = ask(*full_set(), *between)[12:]
            self.assertEqual(found[0::2], [answer] * 11, call)
            self.assertEqual(found[1::2], undisturbed, call)

    def test_many_refusals_in_a_row(self):
        calls = full_set() + refused_calls() + ASKED_OF_ALL
        self.assertEqual(len(calls), 40)
        found = ask(*calls)
        self.assertEqual(found[12:-5], [answer for call, answer in REFUSED])
        self.assertEqual(found[-5:], ask(*full_set(), *ASKED_OF_ALL)[-5:])

    def test_what_is_only_asked_changes_nothing(self):
        asked = [*ASKED_OF_ALL, way(9, 0), apart(9, 0), apart(3, 3)]
        found = ask(*full_set(), *asked, *asked, *asked)
        self.assertEqual(found[12:20], found[20:28])
        self.assertEqual(found[12:20], found[28:])


class LeavesAlone(unittest.TestCase):
    def test_the_list_handed_in_is_the_same(self):
        for behind in (refused_calls() + ASKED_OF_ALL, each_call()):
            calls = joined(full_set() + behind)
            kept = list(calls)
            answers(calls)
            self.assertEqual(calls, kept)

    def test_the_list_handed_in_is_not_changed_for_a_while_either(self):
        for behind in (refused_calls() + ASKED_OF_ALL, each_call()):
            calls = joined(full_set() + behind)
            self.assertEqual(answers(Untouchable(calls)), answers(calls))

    def test_what_is_given_back_is_new(self):
        calls = joined(full_set() + each_call())
        first = answers(calls)
        kept = list(first)
        first.clear()
        self.assertEqual(answers(calls), kept)

    def test_nothing_is_kept_from_one_time_to_the_next(self):
        first = joined(full_set() + ASKED_OF_ALL)
        kept = answers(first)
        self.assertEqual(ask(*ASKED_OF_ALL, gone(0), free(9, 5), way(9, 5), apart(9, 5), system(), SYSTEMS, TIME),
                         [[0], [0], [0], [0, 0], [0], [-2], [-2], [-2], [-2], [0], [1, 0], [1, 1, 0]])
        self.assertEqual(answers(first), kept)

    def test_it_prints_nothing(self):
        out = io.StringIO()
        err = io.StringIO()
        with contextlib.redirect_stdout(out), contextlib.redirect_stderr(err):
            ask(*full_set(), *refused_calls(), *ASKED_OF_ALL)
            ask(*full_set(), *each_call())
        self.assertEqual((out.getvalue(), err.getvalue()), ("", ""))

    def test_it_goes_by_loops(self):
        chain = [before(number, number + 1) for number in range(9)]
        calls = joined(plain(10) + chain + [before(9, 0)] + [ROUNDS, UNTOLD, TIME, way(0, 9), apart(9, 0)] * 4)
        depth = len(inspect.stack())
        limit = sys.getrecursionlimit()
        # Room for the functions that call one another, not for a step deeper with each of the calls.
        sys.setrecursionlimit(depth + 30)
        try:
            found = answers(calls)
        finally:
            sys.setrecursionlimit(limit)
        self.assertEqual(split(found)[18:20], [[9], [-3]])
        self.assertEqual(split(found)[-3:], [[10, 10, *range(10)], [10, *range(10)], [2, 0]])


if __name__ == "__main__":
    unittest.main()
