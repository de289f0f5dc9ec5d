"""Point 1: system and gone."""

import unittest

from tests.asking import ORDER, ROUNDS, TOP, ask, ask_last, before, free, gone, plain, system

ALL_KINDS = list(range(16))


class SystemNumbers(unittest.TestCase):
    def test_numbers_rise_from_0(self):
        self.assertEqual(ask(*plain(10)), [[number] for number in range(10)])

    def test_no_number_is_given_twice(self):
        self.assertEqual(ask(system(), system(), gone(1), system(), gone(0), gone(2), system()),
                         [[0], [1], [1, 0], [2], [1, 0], [0, 0], [3]])

    def test_a_refused_system_uses_up_no_number(self):
        self.assertEqual(ask(system(), system(0), system(), system(1, [16]), system()),
                         [[0], [-1], [1], [-1], [2]])

    def test_a_system_refused_for_room_uses_up_no_number(self):
        found = ask(*plain(11), gone(4), system(), ORDER)
        self.assertEqual(found[10:], [[-5], [9, 0], [10], [10, 0, 1, 2, 3, 5, 6, 7, 8, 9, 10]])


class SystemCost(unittest.TestCase):
    def test_costs_that_hold(self):
        for cost in (1, 2, 500, 998, 999):
            self.assertEqual(ask(system(cost)), [[0]], cost)

    def test_costs_that_do_not(self):
        for cost in (0, 1000, 1001, 65537, TOP):
            self.assertEqual(ask(system(cost), ORDER), [[-1], [0]], cost)


class SystemKinds(unittest.TestCase):
    def assert_both_sides(self, kinds, answer):
        self.assertEqual(ask_last(system(1, kinds, [])), answer, kinds)
        self.assertEqual(ask_last(system(1, [], kinds)), answer, kinds)
        self.assertEqual(ask_last(system(1, kinds, kinds)), answer, kinds)

    def test_kinds_that_hold(self):
        for kinds in ([], [0], [15], [0, 15], [14, 15], [3, 4, 9], ALL_KINDS):
            self.assert_both_sides(kinds, [0])

    def test_a_kind_above_15(self):
        for kinds in ([16], [0, 16], [15, 16], [17], [TOP], ALL_KINDS + [16]):
            self.assert_both_sides(kinds, [-1])

    def test_a_kind_twice(self):
        for kinds in ([0, 0], [15, 15], [1, 2, 2], [1, 1, 2]):
            self.assert_both_sides(kinds, [-1])

    def test_kinds_that_fall(self):
        for kinds in ([1, 0], [15, 14], [0, 2, 1], [5, 1, 9]):
            self.assert_both_sides(kinds, [-1])

    def test_lists_of_20(self):
        for kinds in (list(range(20)), [0] * 20, [TOP] * 20, ALL_KINDS + [15] * 4):
            self.assertEqual(ask(system(1, kinds, kinds), ORDER, system(), ORDER),
                             [[-1], [0], [0], [1, 0]])

    def test_either_list_begins_anew(self):
        self.assertEqual(ask(system(1, [9, 15], [0, 9])), [[0]])
        self.assertEqual(ask(system(1, [0, 9], [9, 15])), [[0]])

    def test_wrong_kinds_beside_right_ones(self):
        self.assertEqual(ask(system(1, [1, 2], [2, 1]), system(1, [2, 1], [1, 2]), ORDER),
                         [[-1], [-1], [0]])


class SystemRoom(unittest.TestCase):
    def test_the_eleventh(self):
        self.assertEqual(ask(*plain(11))[9:], [[9], [-5]])

    def test_a_wrong_one_when_there_are_ten_is_told_to_be_wrong(self):
        for wrong in (system(0), system(1000), system(1, [16]), system(1, [], [1, 1])):
            self.assertEqual(ask_last(*plain(10), wrong), [-1])

    def test_a_new_one_once_one_of_ten_is_gone(self):
        self.assertEqual(ask(*plain(10), gone(0), system(), system())[10:], [[9, 0], [10], [-5]])

    def test_what_is_refused_leaves_the_ten(self):
        found = ask(*plain(10), system(), system(0), ORDER)
        self.assertEqual(found[10:], [[-5], [-1], [10] + list(range(10))])


class Gone(unittest.TestCase):
    def test_a_number_that_was_never_given(self):
        self.assertEqual(ask(gone(0), system(), gone(1), gone(TOP), ORDER),
                         [[-2], [0], [-2], [-2], [1, 0]])

    def test_a_number_that_is_gone(self):
        self.assertEqual(ask(system(), gone(0), gone(0), ORDER), [[0], [0, 0], [-2], [0]])

    def test_a_refused_system_is_not_there(self):
        self.assertEqual(ask(system(0), gone(0)), [[-1], [-2]])

    def test_how_many_systems_there_are_then(self):
        self.assertEqual(ask(*plain(3), gone(1), gone(0), gone(2))[3:], [[2, 0], [1, 0], [0, 0]])

    def test_its_own_pairs_are_told_no_more_on_either_side(self):
        told = [*plain(4), before(0, 1), before(1, 2), before(0, 2), before(3, 1)]
        self.assertEqual(ask_last(*told, gone(1)), [3, 1])
        self.assertEqual(ask_last(*told, gone(0)), [3, 2])
        self.assertEqual(ask_last(*told, gone(2)), [3, 2])
        self.assertEqual(ask_last(*told, gone(3)), [3, 3])

    def test_pairs_of_others_stay(self):
        self.assertEqual(ask(*plain(4), before(3, 0), before(2, 1), gone(2), free(2, 1), free(3, 0))[4:],
                         [[1], [2], [3, 1], [-2], [0]])

    def test_its_place_in_order_and_rounds_is_gone(self):
        found = ask(system(1, [], [0]), system(1, [], [0]), system(1, [], [0]), gone(1), ORDER, ROUNDS)
        self.assertEqual(found[3:], [[2, 0], [2, 0, 2], [2, 1, 0, 1, 2]])

    def test_a_refused_gone_takes_no_pair(self):
        self.assertEqual(ask(*plain(2), before(0, 1), gone(2), free(0, 1))[2:], [[1], [-2], [0]])


if __name__ == "__main__":
    unittest.main()
