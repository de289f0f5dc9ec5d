"""systems."""

import unittest

from tests.asking import SYSTEMS, ask, ask_last, before, gone, plain, system


class Systems(unittest.TestCase):
    def test_none(self):
        self.assertEqual(ask(SYSTEMS, system(), gone(0), SYSTEMS), [[0], [0], [0, 0], [0]])

    def test_one(self):
        self.assertEqual(ask_last(system(), SYSTEMS), [1, 0])

    def test_some(self):
        self.assertEqual(ask_last(*plain(3), SYSTEMS), [3, 0, 1, 2])
        self.assertEqual(ask_last(*plain(10), SYSTEMS), [10] + list(range(10)))

    def test_a_number_that_is_gone_is_not_given_again(self):
        found = ask(*plain(3), gone(1), SYSTEMS, system(), SYSTEMS, gone(3), system(), SYSTEMS)
        self.assertEqual(found[3:], [[2, 0], [2, 0, 2], [3], [3, 0, 2, 3], [2, 0], [4], [3, 0, 2, 4]])

    def test_numbers_above_ten(self):
        turns = [call for number in range(10) for call in (gone(number), system())]
        self.assertEqual(ask_last(*plain(10), *turns, SYSTEMS), [10] + list(range(10, 20)))

    def test_a_refused_one_is_not_among_them(self):
        self.assertEqual(ask(system(0), SYSTEMS, system(1, [3, 3]), system(), SYSTEMS)[1::3], [[0], [1, 0]])

    def test_pairs_do_not_turn_the_numbers_round(self):
        self.assertEqual(ask_last(*plain(3), before(2, 0), before(1, 0), SYSTEMS), [3, 0, 1, 2])

    def test_it_changes_nothing(self):
        self.assertEqual(ask(*plain(2), SYSTEMS, SYSTEMS, system(), before(2, 0))[2:],
                         [[2, 0, 1], [2, 0, 1], [2], [1]])


if __name__ == "__main__":
    unittest.main()
