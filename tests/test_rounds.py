"""rounds."""

import unittest

from tests.asking import (
    ORDER, ROUNDS, ask, ask_last, before, free, gone, plain, reader, rounds_of, system, writer)


def rounds(*calls):
    return rounds_of(ask_last(*calls, ROUNDS))


class RoundsAnswer(unittest.TestCase):
    def test_none(self):
        self.assertEqual(ask(ROUNDS, system(), gone(0), ROUNDS), [[0], [0], [0, 0], [0]])

    def test_of_each_how_many_and_they(self):
        self.assertEqual(ask_last(*plain(3), before(0, 2), ROUNDS), [2, 2, 0, 1, 1, 2])

    def test_one_system(self):
        self.assertEqual(ask_last(system(), ROUNDS), [1, 1, 0])

    def test_all_in_one(self):
        self.assertEqual(ask_last(*plain(10), ROUNDS), [1, 10] + list(range(10)))

    def test_each_in_its_own(self):
        found = ask_last(*[writer(15) for place in range(10)], ROUNDS)
        self.assertEqual(found, [10] + [number for place in range(10) for number in (1, place)])


class Clash(unittest.TestCase):
    def test_write_and_write(self):
        self.assertEqual(rounds(writer(3), writer(3)), [[0], [1]])

    def test_write_and_read_either_way(self):
        self.assertEqual(rounds(writer(3), reader(3)), [[0], [1]])
        self.assertEqual(rounds(reader(3), writer(3)), [[0], [1]])

    def test_two_that_only_read(self):
        self.assertEqual(rounds(reader(3), reader(3), reader(0, 3, 15)), [[0, 1, 2]])

    def test_other_kinds(self):
        self.assertEqual(rounds(writer(0), writer(1), reader(2), system(1, [3], [4])), [[0, 1, 2, 3]])

    def test_kinds_0_and_15(self):
        self.assertEqual(rounds(writer(0), reader(0)), [[0], [1]])
        self.assertEqual(rounds(writer(15), reader(15)), [[0], [1]])

    def test_the_last_of_many_kinds(self):
        self.assertEqual(rounds(system(1, [1, 2, 3], [4, 5, 9]), system(1, [6, 7, 9], [8])), [[0], [1]])
        self.assertEqual(rounds(system(1, [6, 7, 9], [8]), system(1, [1, 2, 3], [4, 5, 9])), [[0], [1]])

    def test_what_one_reads_and_writes_itself_is_no_clash_with_others(self):
        self.assertEqual(rounds(system(1, [1], [1]), system(1, [2], [2])), [[0, 1]])


class Rounds(unittest.TestCase):
    def test_a_pair_that_does_not_clash(self):
        self.assertEqual(rounds(*plain(2), before(0, 1)), [[0], [1]])
        self.assertEqual(rounds(*plain(2), before(1, 0)), [[1], [0]])

    def test_told_by_what_is_between_though_that_does_not_clash(self):
        self.assertEqual(rounds(writer(0), system(), reader(0), before(0, 1), before(1, 2)), [[0], [1], [2]])
        self.assertEqual(rounds(*plain(3), before(0, 1), before(1, 2)), [[0], [1], [2]])

    def test_told_by_what_is_between_turns_a_clash_round(self):
        self.assertEqual(rounds(writer(0), system(), reader(0), before(2, 1), before(1, 0)), [[2], [1], [0]])

    def test_a_clash_follows_the_order_not_the_number(self):
        self.assertEqual(rounds(writer(0), writer(0), before(1, 0)), [[1], [0]])
        # 2 comes ahead of 0 in order by its pair, so it's 1, 2, 0 that follow one another.
        self.assertEqual(rounds(writer(0), writer(0), writer(0), before(2, 0)), [[1], [2], [0]])

    def test_the_first_round_behind_all_that_must_be_over(self):
        # 3 clashes with 0 alone, which is in round 0.
        self.assertEqual(rounds(writer(0, 1), reader(0), writer(0), reader(1)), [[0], [1, 3], [2]])
        # 3 clashes with 2, in round 2, and with 0.
        self.assertEqual(rounds(writer(0), writer(0), writer(0, 1), reader(0, 1)), [[0], [1], [2], [3]])
        # 4 clashes with 1 and 3, of which 3 is in the earlier round.
        self.assertEqual(rounds(writer(0), system(1, [0], [1]), system(), writer(2), reader(1, 2)),
                         [[0, 2, 3], [1], [4]])

    def test_one_behind_in_order_may_be_in_an_earlier_round(self):
        self.assertEqual(rounds(writer(0), writer(0), writer(1)), [[0, 2], [1]])

    def test_clashes_are_not_handed_on(self):
        # 0 and 1 clash, 1 and 2 clash: 2 is behind 1; 3 clashes with none.
        self.assertEqual(rounds(writer(0), system(1, [0], [1]), reader(1), reader(2)), [[0, 3], [1], [2]])

    def test_in_a_round_in_order_not_by_number(self):
        # 2 is behind 1 by a clash, 0 behind 3 by its pair: both are in round 1, and 2 is ahead in order.
        told = [system(), writer(5), reader(5), system(), before(3, 0)]
        self.assertEqual(ask(*told, ORDER, ROUNDS)[5:], [[4, 1, 2, 3, 0], [2, 2, 1, 3, 2, 2, 0]])

    def test_in_round_0_in_order(self):
        self.assertEqual(rounds(*plain(4), before(3, 0), before(3, 1)), [[2, 3], [0, 1]])

    def test_it_follows_what_there_is_now(self):
        found = ask(writer(0), writer(0), reader(0), ROUNDS, before(2, 0), ROUNDS, free(2, 0), ROUNDS, gone(1), ROUNDS)
        self.assertEqual([rounds_of(answer) for answer in found[3::2]],
                         [[[0], [1], [2]], [[1], [2], [0]], [[0], [1], [2]], [[0], [2]]])

    def test_it_changes_nothing(self):
        found = ask(writer(0), reader(0), ROUNDS, ROUNDS, before(1, 0), system(), ROUNDS)
        self.assertEqual(found[2:], [[2, 1, 0, 1, 1], [2, 1, 0, 1, 1], [1], [2], [2, 2, 1, 2, 1, 0]])


if __name__ == "__main__":
    unittest.main()
