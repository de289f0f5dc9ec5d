"""Point 3: way."""

import unittest

from tests.asking import ORDER, TOP, ask, ask_last, before, free, gone, plain, system, way, writer


class Refused(unittest.TestCase):
    def test_either_was_never_given(self):
        self.assertEqual(ask(system(), way(0, 1), way(1, 0), way(0, TOP), way(TOP, 0), way(1, 2))[1:], [[-2]] * 5)

    def test_either_is_gone(self):
        told = [*plain(3), before(0, 1), before(1, 2)]
        self.assertEqual(ask(*told, gone(0), way(0, 1), way(0, 2), way(1, 2))[6:], [[-2], [-2], [2, 1, 2]])
        self.assertEqual(ask(*told, gone(2), way(1, 2), way(0, 2), way(0, 1))[6:], [[-2], [-2], [2, 0, 1]])

    def test_the_same_one_twice(self):
        self.assertEqual(ask(*plain(2), before(0, 1), way(0, 0), way(1, 1))[3:], [[-2], [-2]])

    def test_the_same_one_that_is_not_there(self):
        self.assertEqual(ask(way(0, 0), system(), way(TOP, TOP)), [[-2], [0], [-2]])

    def test_there_is_no_such_system_ahead_of_no_such_row(self):
        # Neither a row nor one of the systems is there.
        self.assertEqual(ask(*plain(2), gone(1), way(0, 1), way(1, 0), way(0, 2), way(0, 0))[3:], [[-2]] * 4)

    def test_two_that_nothing_joins(self):
        self.assertEqual(ask(*plain(2), way(0, 1), way(1, 0))[2:], [[-6], [-6]])

    def test_a_clash_joins_nothing(self):
        self.assertEqual(ask(writer(0), writer(0), way(0, 1), way(1, 0))[2:], [[-6], [-6]])

    def test_only_the_other_way_round(self):
        self.assertEqual(ask(*plain(3), before(0, 1), before(1, 2), way(1, 0), way(2, 1), way(2, 0))[5:], [[-6]] * 3)
        self.assertEqual(ask(*plain(3), before(2, 1), before(1, 0), way(0, 1), way(1, 2), way(0, 2))[5:], [[-6]] * 3)

    def test_both_before_a_third_or_behind_it(self):
        self.assertEqual(ask(*plain(3), before(0, 1), before(2, 1), way(0, 2), way(2, 0))[5:], [[-6], [-6]])
        self.assertEqual(ask(*plain(3), before(1, 0), before(1, 2), way(0, 2), way(2, 0))[5:], [[-6], [-6]])

    def test_no_more_behind_free_or_gone(self):
        told = [*plain(3), before(0, 1), before(1, 2)]
        self.assertEqual(ask_last(*told, free(0, 1), way(0, 2)), [-6])
        self.assertEqual(ask_last(*told, free(1, 2), way(0, 2)), [-6])
        self.assertEqual(ask_last(*told, gone(1), way(0, 2)), [-6])

    def test_a_refusal_changes_nothing(self):
        found = ask(*plain(3), before(2, 0), way(0, 2), way(1, 1), way(0, 3), ORDER, before(0, 1), system())
        self.assertEqual(found[4:], [[-6], [-2], [-2], [3, 1, 2, 0], [2], [3]])


class Way(unittest.TestCase):
    def test_a_row_of_two(self):
        self.assertEqual(ask(*plain(2), before(0, 1), way(0, 1))[3], [2, 0, 1])
        self.assertEqual(ask(*plain(2), before(1, 0), way(1, 0))[3], [2, 1, 0])

    def test_a_row_by_what_is_between(self):
        told = [*plain(4), before(2, 0), before(0, 3), before(3, 1)]
        self.assertEqual(ask(*told, way(2, 3), way(2, 1), way(0, 1))[7:], [[3, 2, 0, 3], [4, 2, 0, 3, 1], [3, 0, 3, 1]])

    def test_a_row_of_ten(self):
        told = [before(number + 1, number) for number in range(9)]
        self.assertEqual(ask_last(*plain(10), *told, way(9, 0)), [10] + list(reversed(range(10))))

    def test_the_shortest_of_several(self):
        told = [*plain(5), before(0, 1), before(1, 2), before(2, 4), before(0, 3), before(3, 4)]
        self.assertEqual(ask_last(*told, way(0, 4)), [3, 0, 3, 4])
        self.assertEqual(ask_last(*told, before(0, 4), way(0, 4)), [2, 0, 4])
        self.assertEqual(ask_last(*told, free(3, 4), way(0, 4)), [4, 0, 1, 2, 4])

    def test_a_short_cut_in_the_middle(self):
        told = [*plain(6), *[before(number, number + 1) for number in range(5)], before(1, 4)]
        self.assertEqual(ask_last(*told, way(0, 5)), [4, 0, 1, 4, 5])


class WayOfTheSameLength(unittest.TestCase):
    def test_the_lower_number(self):
        pairs = [before(0, 1), before(1, 3), before(0, 2), before(2, 3)]
        self.assertEqual(ask_last(*plain(4), *pairs, way(0, 3)), [3, 0, 1, 3])

    def test_whatever_pair_was_told_first(self):
        pairs = [before(2, 3), before(0, 2), before(1, 3), before(0, 1)]
        self.assertEqual(ask_last(*plain(4), *pairs, way(0, 3)), [3, 0, 1, 3])
        self.assertEqual(ask_last(*plain(4), *reversed(pairs), way(0, 3)), [3, 0, 1, 3])

    def test_the_first_place_at_which_they_differ(self):
        # 0 1 4 5 and 0 2 3 5: the lower number at the second place, though the higher at the third.
        pairs = [before(0, 1), before(1, 4), before(4, 5), before(0, 2), before(2, 3), before(3, 5)]
        self.assertEqual(ask_last(*plain(6), *pairs, way(0, 5)), [4, 0, 1, 4, 5])
        self.assertEqual(ask_last(*plain(6), *reversed(pairs), way(0, 5)), [4, 0, 1, 4, 5])

    def test_they_differ_at_a_later_place_only(self):
        # 5 4 2 0, 5 4 1 0 and 5 4 3 0.
        pairs = [before(5, 4), before(4, 2), before(2, 0), before(4, 3), before(3, 0), before(4, 1), before(1, 0)]
        self.assertEqual(ask_last(*plain(6), *pairs, way(5, 0)), [4, 5, 4, 1, 0])
        self.assertEqual(ask_last(*plain(6), *reversed(pairs), way(5, 0)), [4, 5, 4, 1, 0])

    def test_the_lower_number_at_the_last_place_only(self):
        # 0 3 1 5 and 0 2 4 5: seen from the end, the first would be lower.
        pairs = [before(0, 3), before(3, 1), before(1, 5), before(0, 2), before(2, 4), before(4, 5)]
        self.assertEqual(ask_last(*plain(6), *pairs, way(0, 5)), [4, 0, 2, 4, 5])
        self.assertEqual(ask_last(*plain(6), *reversed(pairs), way(0, 5)), [4, 0, 2, 4, 5])

    def test_the_lower_number_leads_nowhere(self):
        pairs = [before(0, 1), before(1, 4), before(0, 2), before(2, 3)]
        self.assertEqual(ask_last(*plain(5), *pairs, way(0, 3)), [3, 0, 2, 3])

    def test_the_lower_number_leads_by_a_longer_row(self):
        pairs = [before(0, 1), before(1, 2), before(2, 4), before(0, 3), before(3, 4)]
        self.assertEqual(ask_last(*plain(5), *pairs, way(0, 4)), [3, 0, 3, 4])

    def test_the_lower_number_comes_before_the_first(self):
        # 0 is joined to both ends, but stands ahead of 1.
        pairs = [before(0, 1), before(0, 3), before(1, 2), before(2, 3)]
        self.assertEqual(ask_last(*plain(4), *pairs, way(1, 3)), [3, 1, 2, 3])

    def test_once_the_lower_is_gone_or_freed(self):
        told = [*plain(4), before(0, 1), before(1, 3), before(0, 2), before(2, 3)]
        self.assertEqual(ask_last(*told, gone(1), way(0, 3)), [3, 0, 2, 3])
        self.assertEqual(ask_last(*told, free(0, 1), way(0, 3)), [3, 0, 2, 3])
        self.assertEqual(ask_last(*told, free(1, 3), way(0, 3)), [3, 0, 2, 3])

    def test_numbers_above_ten_are_told_apart_as_numbers(self):
        # 10 is below 9 as a text, not as a number.
        calls = [*plain(10), gone(0), system(), before(1, 10), before(10, 2), before(1, 9), before(9, 2), way(1, 2)]
        self.assertEqual(ask_last(*calls), [3, 1, 9, 2])


if __name__ == "__main__":
    unittest.main()
