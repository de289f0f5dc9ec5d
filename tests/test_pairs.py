"""Point 2: before and free."""

import unittest

from tests.asking import ORDER, TOP, ask, ask_last, before, free, gone, plain, system


class Before(unittest.TestCase):
    def test_how_many_pairs_are_told_then(self):
        self.assertEqual(ask(*plain(4), before(0, 1), before(2, 3), before(0, 3), before(2, 1))[4:],
                         [[1], [2], [3], [4]])

    def test_as_many_pairs_as_calls_leave_room_for(self):
        pairs = [(first, second) for first in range(10) for second in range(first + 1, 10)][:30]
        found = ask(*plain(10), *[before(second, first) for first, second in pairs])
        self.assertEqual(found[10:], [[count] for count in range(1, 31)])

    def test_either_system_is_not_there(self):
        self.assertEqual(ask(system(), before(0, 1), before(1, 0), before(0, TOP), before(TOP, 0)),
                         [[0], [-2], [-2], [-2], [-2]])

    def test_either_system_is_gone(self):
        self.assertEqual(ask(*plain(2), gone(1), before(0, 1), before(1, 0))[2:], [[1, 0], [-2], [-2]])

    def test_the_same_one(self):
        self.assertEqual(ask(*plain(2), before(0, 0), before(1, 1), before(0, 1))[2:], [[-3], [-3], [1]])

    def test_the_same_one_that_is_not_there(self):
        self.assertEqual(ask(before(0, 0), system(), before(1, 1)), [[-2], [0], [-2]])

    def test_the_other_way_round(self):
        self.assertEqual(ask(*plain(2), before(0, 1), before(1, 0), before(0, 1))[2:], [[1], [-3], [-4]])
        self.assertEqual(ask(*plain(2), before(1, 0), before(0, 1), before(1, 0))[2:], [[1], [-3], [-4]])

    def test_the_other_way_round_by_what_is_between(self):
        told = [*plain(4), before(2, 0), before(0, 3), before(3, 1)]
        for first, second in ((0, 2), (3, 2), (1, 2), (3, 0), (1, 0), (1, 3)):
            self.assertEqual(ask_last(*told, before(first, second)), [-3], (first, second))

    def test_a_ring_of_ten_is_not_told(self):
        told = [before(number, number + 1) for number in reversed(range(9))]
        self.assertEqual(ask(*plain(10), *told, before(9, 0), before(0, 9))[18:], [[9], [-3], [10]])

    def test_a_ring_by_several_ways(self):
        told = [*plain(5), before(0, 1), before(0, 2), before(1, 3), before(2, 3), before(3, 4)]
        self.assertEqual(ask_last(*told, before(4, 0)), [-3])
        self.assertEqual(ask_last(*told, free(1, 3), before(4, 0)), [-3])
        self.assertEqual(ask_last(*told, free(1, 3), free(2, 3), before(4, 0)), [4])

    def test_a_pair_told_already(self):
        self.assertEqual(ask(*plain(3), before(0, 1), before(1, 2), before(0, 1), before(1, 2), before(0, 2))[3:],
                         [[1], [2], [-4], [-4], [3]])

    def test_told_by_what_is_between_only_may_be_told(self):
        self.assertEqual(ask(*plain(3), before(0, 1), before(1, 2), before(0, 2), before(0, 2))[3:],
                         [[1], [2], [3], [-4]])

    def test_of_several_refusals_the_one_told_first(self):
        # A gone system's number stands on both sides: it's no such system, ahead of the same one.
        self.assertEqual(ask(*plain(2), before(0, 1), gone(1), before(1, 1), before(1, 0), before(0, 1))[2:],
                         [[1], [1, 0], [-2], [-2], [-2]])

    def test_after_a_refusal_no_pair_is_told(self):
        refused = [before(1, 2), before(1, 1), before(1, 3), before(2, 1)]
        found = ask(*plain(3), before(2, 1), *refused, ORDER, before(0, 1))
        self.assertEqual(found[3:], [[1], [-3], [-3], [-2], [-4], [3, 0, 2, 1], [2]])


class Free(unittest.TestCase):
    def test_how_many_pairs_are_told_then(self):
        found = ask(*plain(3), before(0, 1), before(1, 2), before(0, 2), free(1, 2), free(0, 2), free(0, 1))
        self.assertEqual(found[3:], [[1], [2], [3], [2], [1], [0]])

    def test_a_pair_that_is_not_told(self):
        self.assertEqual(ask(*plain(3), free(0, 1), before(0, 1), free(0, 2), free(1, 2), free(0, 0))[3:],
                         [[-2], [1], [-2], [-2], [-2]])

    def test_systems_that_are_not_there(self):
        self.assertEqual(ask(free(0, 1), system(), free(0, 1), free(1, 0), free(0, TOP), free(TOP, TOP)),
                         [[-2], [0], [-2], [-2], [-2], [-2]])

    def test_the_pair_the_other_way_round(self):
        self.assertEqual(ask(*plain(2), before(0, 1), free(1, 0), free(0, 1))[2:], [[1], [-2], [0]])

    def test_one_told_by_what_is_between_only(self):
        self.assertEqual(ask(*plain(3), before(0, 1), before(1, 2), free(0, 2), before(0, 1), before(1, 2))[3:],
                         [[1], [2], [-2], [-4], [-4]])

    def test_a_pair_freed_twice(self):
        self.assertEqual(ask(*plain(2), before(0, 1), free(0, 1), free(0, 1))[2:], [[1], [0], [-2]])

    def test_a_pair_of_a_gone_system(self):
        self.assertEqual(ask(*plain(2), before(0, 1), gone(0), free(0, 1))[2:], [[1], [1, 0], [-2]])

    def test_a_freed_pair_told_again(self):
        self.assertEqual(ask(*plain(2), before(0, 1), free(0, 1), before(0, 1), before(0, 1))[2:],
                         [[1], [0], [1], [-4]])

    def test_a_freed_pair_told_the_other_way_round(self):
        self.assertEqual(ask(*plain(2), before(0, 1), free(0, 1), before(1, 0), ORDER)[2:],
                         [[1], [0], [1], [2, 1, 0]])


class BetweenHoldsNoMore(unittest.TestCase):
    def test_when_the_pair_between_is_freed(self):
        told = [*plain(3), before(0, 1), before(1, 2)]
        self.assertEqual(ask_last(*told, before(2, 0)), [-3])
        self.assertEqual(ask(*told, free(0, 1), before(2, 0))[5:], [[1], [2]])
        self.assertEqual(ask(*told, free(1, 2), before(2, 0))[5:], [[1], [2]])

    def test_when_its_system_is_gone(self):
        self.assertEqual(ask(*plain(3), before(0, 1), before(1, 2), gone(1), before(2, 0))[5:], [[2, 0], [1]])

    def test_what_is_told_as_a_pair_too_holds_on(self):
        told = [*plain(3), before(0, 1), before(1, 2), before(0, 2)]
        self.assertEqual(ask(*told, gone(1), before(2, 0), before(0, 2))[6:], [[2, 1], [-3], [-4]])
        self.assertEqual(ask(*told, free(1, 2), before(2, 0), before(0, 2))[6:], [[2], [-3], [-4]])

    def test_what_is_freed_as_a_pair_holds_on_by_what_is_between(self):
        told = [*plain(3), before(0, 1), before(1, 2), before(0, 2)]
        self.assertEqual(ask(*told, free(0, 2), before(2, 0), before(0, 2))[6:], [[2], [-3], [3]])


if __name__ == "__main__":
    unittest.main()
