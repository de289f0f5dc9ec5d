"""What holds of answers as a whole: its form, refusals, and what it leaves alone."""

import contextlib
import inspect
import io
import sys
import unittest

from systemrounds.tick import answers
from tests.asking import ORDER, ROUNDS, TOP, apart, ask, before, free, gone, joined, plain, system

REFUSED = (
    (system(0), [-1]),
    (system(1000, [0]), [-1]),
    (system(1, [16], []), [-1]),
    (system(1, [], [2, 2]), [-1]),
    (system(), [-5]),
    (gone(10), [-2]),
    (gone(TOP), [-2]),
    (before(10, 0), [-2]),
    (before(0, 10), [-2]),
    (before(4, 4), [-3]),
    (before(0, 9), [-3]),
    (before(0, 5), [-3]),
    (before(9, 5), [-4]),
    (free(0, 9), [-2]),
    (free(9, 0), [-2]),
    (free(1, 2), [-2]),
)


def full_set():
    """Ten systems, so that a further one is refused, and pairs told: 9, 5, 0."""
    systems = [system(number + 1, [number], [number // 2]) for number in range(10)]
    return systems + [before(9, 5), before(5, 0)]


class Untouchable(list):
    """A list that refuses each change, for a while too."""

    def refuse(self, *rest, **named):
        raise AssertionError("the list handed in was changed")

    __setitem__ = __delitem__ = __iadd__ = __imul__ = refuse
    append = extend = insert = pop = remove = clear = sort = reverse = refuse


class Form(unittest.TestCase):
    def test_each_answer_has_its_count_ahead(self):
        calls = joined([system(5, [1], [2]), system(5, [2], []), before(1, 0), ORDER, ROUNDS, gone(7), gone(0), ROUNDS])
        self.assertEqual(answers(calls), [1, 0, 1, 1, 1, 1, 3, 2, 1, 0, 5, 2, 1, 1, 1, 0, 1, -2, 2, 1, 0, 3, 1, 1, 1])

    def test_one_call(self):
        self.assertEqual(answers([4]), [1, 0])
        self.assertEqual(answers([5]), [1, 0])
        self.assertEqual(answers([1, 0]), [1, -2])
        self.assertEqual(answers([2, 0, 0]), [1, -2])
        self.assertEqual(answers([3, 0, 0]), [1, -2])
        self.assertEqual(answers([0, 1, 0, 0]), [1, 0])

    def test_it_is_a_list_of_whole_numbers(self):
        found = answers(joined(full_set() + [call for call, answer in REFUSED] + [ORDER, ROUNDS]))
        self.assertIs(type(found), list)
        self.assertEqual({type(number) for number in found}, {int})

    def test_rows_are_told_apart_by_their_counts(self):
        # What a row holds may look like calls.
        calls = joined([system(4, [4, 5], [0, 1]), system(5, [5], []), ORDER, system(1, [], [4, 5])])
        self.assertEqual(apart(answers(calls)), [[0], [1], [2, 0, 1], [2]])

    def test_forty_calls(self):
        calls = full_set() + [ORDER, ROUNDS, free(9, 5), before(9, 5)] * 7
        self.assertEqual(len(calls), 40)
        found = ask(*calls)
        self.assertEqual(found[:12], [[number] for number in range(10)] + [[1], [2]])
        self.assertEqual(found[12][0], 10)
        for turn in range(7):
            self.assertEqual(found[12 + 4 * turn:16 + 4 * turn], [found[12], found[13], [1], [2]])

    def test_forty_calls_as_long_as_can_be(self):
        kinds = list(range(20))
        calls = [system(TOP, kinds, kinds)] * 39 + [ORDER]
        self.assertEqual(ask(*calls), [[-1]] * 39 + [[0]])


class Refusals(unittest.TestCase):
    def test_after_a_refusal_all_is_as_it_was(self):
        # What follows tells the systems, the pairs, how many they are and which number is given next.
        behind = [ORDER, ROUNDS, before(9, 5), free(9, 5), free(5, 0), gone(3), system(), ORDER, ROUNDS]
        undisturbed = ask(*full_set(), *behind)
        self.assertEqual(undisturbed[14:19], [[-4], [1], [0], [9, 0], [10]])
        for call, answer in REFUSED:
            found = ask(*full_set(), call, *behind)
            self.assertEqual(found[12], answer, call)
            self.assertEqual(found[:12] + found[13:], undisturbed, call)

    def test_many_refusals_in_a_row(self):
        found = ask(*full_set(), *[call for call, answer in REFUSED], ORDER, ROUNDS)
        self.assertEqual(found[12:-2], [answer for call, answer in REFUSED])
        self.assertEqual(found[-2:], ask(*full_set(), ORDER, ROUNDS)[-2:])


class LeavesAlone(unittest.TestCase):
    def test_the_list_handed_in_is_the_same(self):
        calls = joined(full_set() + [call for call, answer in REFUSED] + [gone(2), free(5, 0), ORDER, ROUNDS])
        kept = list(calls)
        answers(calls)
        self.assertEqual(calls, kept)

    def test_the_list_handed_in_is_not_changed_for_a_while_either(self):
        calls = full_set() + [call for call, answer in REFUSED] + [gone(2), free(5, 0), ORDER, ROUNDS]
        self.assertEqual(answers(Untouchable(joined(calls))), answers(joined(calls)))

    def test_what_is_given_back_is_new(self):
        calls = joined(full_set() + [ORDER])
        first = answers(calls)
        kept = list(first)
        first.clear()
        self.assertEqual(answers(calls), kept)

    def test_nothing_is_kept_from_one_time_to_the_next(self):
        first = joined(full_set() + [ORDER, ROUNDS])
        kept = answers(first)
        self.assertEqual(answers(joined([ORDER, ROUNDS, gone(0), free(9, 5), system(), ORDER])),
                         [1, 0, 1, 0, 1, -2, 1, -2, 1, 0, 2, 1, 0])
        self.assertEqual(answers(first), kept)

    def test_it_prints_nothing(self):
        out = io.StringIO()
        err = io.StringIO()
        with contextlib.redirect_stdout(out), contextlib.redirect_stderr(err):
            ask(*full_set(), *[call for call, answer in REFUSED], ORDER, ROUNDS)
        self.assertEqual((out.getvalue(), err.getvalue()), ("", ""))

    def test_it_goes_by_loops(self):
        chain = [before(number, number + 1) for number in range(9)]
        calls = joined(plain(10) + chain + [before(9, 0)] + [ROUNDS] * 20)
        depth = len(inspect.stack())
        limit = sys.getrecursionlimit()
        # Room for the functions that call one another, not for a step deeper with each of the calls.
        sys.setrecursionlimit(depth + 30)
        try:
            found = answers(calls)
        finally:
            sys.setrecursionlimit(limit)
        self.assertEqual(apart(found)[18:20], [[9], [-3]])


if __name__ == "__main__":
    unittest.main()
