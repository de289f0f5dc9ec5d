"""order."""

import unittest

from tests.asking import ORDER, ask, ask_last, before, free, gone, plain, system


class Order(unittest.TestCase):
    def test_none(self):
        self.assertEqual(ask(ORDER, system(), gone(0), ORDER), [[0], [0], [0, 0], [0]])

    def test_without_pairs_by_number(self):
        self.assertEqual(ask_last(*plain(10), ORDER), [10] + list(range(10)))

    def test_a_clash_turns_nothing_round(self):
        writers = [system(1, [], [0]) for place in range(3)]
        self.assertEqual(ask_last(*writers, before(2, 1), ORDER), [3, 0, 2, 1])

    def test_cost_turns_nothing_round(self):
        self.assertEqual(ask_last(system(999), system(1), system(500), ORDER), [3, 0, 1, 2])

    def test_pairs_that_turn_the_numbers_round(self):
        told = [before(number + 1, number) for number in range(9)]
        self.assertEqual(ask_last(*plain(10), *told, ORDER), [10] + list(reversed(range(10))))

    def test_the_lowest_of_those_that_are_free_to_come(self):
        # 0 waits for 3 alone: it comes as soon as 3 has come, ahead of 4.
        self.assertEqual(ask_last(*plain(5), before(3, 0), ORDER), [5, 1, 2, 3, 0, 4])
        self.assertEqual(ask_last(*plain(5), before(4, 0), before(4, 1), ORDER), [5, 2, 3, 4, 0, 1])
        self.assertEqual(ask_last(*plain(5), before(4, 1), before(1, 0), ORDER), [5, 2, 3, 4, 1, 0])

    def test_it_waits_for_all_that_are_told_to_come_before_it(self):
        self.assertEqual(ask_last(*plain(5), before(1, 0), before(3, 0), ORDER), [5, 1, 2, 3, 0, 4])

    def test_a_higher_number_comes_late_though_it_is_free_early(self):
        self.assertEqual(ask_last(*plain(4), before(3, 2), before(0, 1), ORDER), [4, 0, 1, 3, 2])

    def test_it_follows_what_is_told_now(self):
        found = ask(*plain(3), before(2, 0), ORDER, free(2, 0), ORDER, before(1, 0), ORDER, gone(1), ORDER)
        self.assertEqual(found[4::2], [[3, 1, 2, 0], [3, 0, 1, 2], [3, 1, 0, 2], [2, 0, 2]])

    def test_it_changes_nothing(self):
        found = ask(*plain(3), before(2, 0), ORDER, ORDER, system(), before(2, 0), ORDER)
        self.assertEqual(found[4:], [[3, 1, 2, 0], [3, 1, 2, 0], [3], [-4], [4, 1, 2, 0, 3]])


if __name__ == "__main__":
    unittest.main()
