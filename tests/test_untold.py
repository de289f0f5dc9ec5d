"""untold."""

import unittest

from tests.asking import UNTOLD, ask, ask_last, before, free, gone, plain, reader, system, writer


def untold(*calls):
    """The pairs that an answer of untold tells, as a list of tuples."""
    answer = ask_last(*calls, UNTOLD)
    if len(answer) != 1 + 2 * answer[0]:
        raise AssertionError(f"not an answer of untold: {answer}")
    return list(zip(answer[1::2], answer[2::2]))


class Untold(unittest.TestCase):
    def test_no_systems(self):
        self.assertEqual(ask(UNTOLD, writer(0), writer(0), gone(0), gone(1), UNTOLD)[::5], [[0], [0]])

    def test_one_system(self):
        self.assertEqual(ask_last(system(), UNTOLD), [0])
        # With itself it clashes, but it's no pair.
        self.assertEqual(ask_last(system(1, [3], [3]), UNTOLD), [0])

    def test_two_that_clash(self):
        self.assertEqual(ask_last(writer(3), writer(3), UNTOLD), [1, 0, 1])
        self.assertEqual(ask_last(writer(3), reader(3), UNTOLD), [1, 0, 1])
        self.assertEqual(ask_last(reader(3), writer(3), UNTOLD), [1, 0, 1])

    def test_two_that_only_read_the_same_kind(self):
        self.assertEqual(ask_last(reader(3), reader(3), UNTOLD), [0])
        self.assertEqual(ask_last(system(1, [3], [4]), system(1, [3], [5]), UNTOLD), [0])

    def test_other_kinds(self):
        self.assertEqual(ask_last(writer(0), writer(1), reader(2), UNTOLD), [0])

    def test_kinds_0_and_15(self):
        self.assertEqual(untold(writer(0), reader(0)), [(0, 1)])
        self.assertEqual(untold(writer(15), reader(15)), [(0, 1)])

    def test_a_pair_told_without_a_clash_is_none(self):
        self.assertEqual(untold(*plain(3), before(0, 1)), [])


class ToldPairs(unittest.TestCase):
    def test_as_a_pair_either_way_round(self):
        self.assertEqual(untold(writer(3), writer(3), before(0, 1)), [])
        self.assertEqual(untold(writer(3), writer(3), before(1, 0)), [])

    def test_by_what_is_between_only_either_way_round(self):
        systems = [writer(3), system(), writer(3)]
        self.assertEqual(untold(*systems, before(0, 1)), [(0, 2)])
        self.assertEqual(untold(*systems, before(0, 1), before(1, 2)), [])
        self.assertEqual(untold(*systems, before(2, 1), before(1, 0)), [])

    def test_by_several_between(self):
        systems = [writer(3), system(), system(), writer(3)]
        self.assertEqual(untold(*systems, before(2, 3), before(0, 1), before(1, 2)), [])
        self.assertEqual(untold(*systems, before(1, 0), before(2, 1), before(3, 2)), [])

    def test_both_before_a_third_does_not_tell_them(self):
        systems = [writer(3), system(), writer(3)]
        self.assertEqual(untold(*systems, before(0, 1), before(2, 1)), [(0, 2)])
        self.assertEqual(untold(*systems, before(1, 0), before(1, 2)), [(0, 2)])

    def test_no_more_behind_free(self):
        told = [writer(3), writer(3), before(0, 1)]
        self.assertEqual(untold(*told, free(0, 1)), [(0, 1)])
        between = [writer(3), system(), writer(3), before(0, 1), before(1, 2)]
        self.assertEqual(untold(*between, free(0, 1)), [(0, 2)])
        self.assertEqual(untold(*between, free(1, 2)), [(0, 2)])

    def test_still_told_by_what_is_between_behind_free(self):
        told = [writer(3), system(), writer(3), before(0, 1), before(1, 2), before(0, 2)]
        self.assertEqual(untold(*told, free(0, 2)), [])
        self.assertEqual(untold(*told, free(0, 1)), [])

    def test_no_more_behind_gone(self):
        between = [writer(3), system(), writer(3), before(2, 1), before(1, 0)]
        self.assertEqual(untold(*between), [])
        self.assertEqual(untold(*between, gone(1)), [(0, 2)])


class SeveralPairs(unittest.TestCase):
    def test_the_lower_number_first_rising(self):
        systems = [writer(1), writer(0), reader(0, 1), writer(0)]
        self.assertEqual(untold(*systems), [(0, 2), (1, 2), (1, 3), (2, 3)])

    def test_by_number_not_by_order(self):
        systems = [writer(0), writer(0), writer(0), system()]
        self.assertEqual(untold(*systems, before(3, 0), before(3, 1)), [(0, 1), (0, 2), (1, 2)])

    def test_all_of_ten(self):
        pairs = [(low, high) for low in range(10) for high in range(low + 1, 10)]
        self.assertEqual(untold(*[writer(7) for place in range(10)]), pairs)

    def test_those_that_are_told_are_left_out(self):
        systems = [writer(0) for place in range(4)]
        self.assertEqual(untold(*systems, before(2, 0), before(0, 3)), [(0, 1), (1, 2), (1, 3)])

    def test_numbers_that_are_gone_are_not_in_it(self):
        systems = [writer(0) for place in range(4)]
        self.assertEqual(untold(*systems, gone(1)), [(0, 2), (0, 3), (2, 3)])
        self.assertEqual(untold(*systems, gone(1), writer(0)), [(0, 2), (0, 3), (0, 4), (2, 3), (2, 4), (3, 4)])

    def test_it_changes_nothing(self):
        self.assertEqual(ask(writer(0), writer(0), UNTOLD, UNTOLD, before(1, 0), UNTOLD, system())[2:],
                         [[1, 0, 1], [1, 0, 1], [1], [0], [2]])


if __name__ == "__main__":
    unittest.main()
