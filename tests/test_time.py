"""time."""

import unittest

from tests.asking import ORDER, TIME, ask, ask_last, before, free, gone, plain, reader, system, writer


def time(*calls):
    """How long the tick lasts, and the chain."""
    answer = ask_last(*calls, TIME)
    if len(answer) != 2 + answer[1]:
        raise AssertionError(f"not an answer of time: {answer}")
    return answer[0], answer[2:]


class TickLasts(unittest.TestCase):
    def test_no_systems(self):
        self.assertEqual(ask(TIME, system(), gone(0), TIME), [[0, 0], [0], [0, 0], [0, 0]])

    def test_one_system(self):
        self.assertEqual(ask_last(system(7), TIME), [7, 1, 0])
        self.assertEqual(ask_last(system(1), TIME), [1, 1, 0])
        self.assertEqual(ask_last(system(999), TIME), [999, 1, 0])
        # What it clashes with itself for makes it wait for nothing.
        self.assertEqual(ask_last(system(7, [1], [1]), TIME), [7, 1, 0])

    def test_beside_one_another_as_long_as_the_longest(self):
        self.assertEqual(ask_last(system(3), system(8), system(5), TIME), [8, 1, 1])

    def test_two_that_only_read_wait_for_nothing(self):
        self.assertEqual(time(reader(3, cost=4), reader(3, cost=6)), (6, [1]))

    def test_one_waits_by_a_clash(self):
        self.assertEqual(time(writer(3, cost=4), reader(3, cost=6)), (10, [0, 1]))
        self.assertEqual(time(reader(3, cost=4), writer(3, cost=6)), (10, [0, 1]))
        self.assertEqual(time(writer(3, cost=4), writer(3, cost=6)), (10, [0, 1]))

    def test_one_waits_by_a_pair(self):
        self.assertEqual(time(system(4), system(6), before(0, 1)), (10, [0, 1]))
        self.assertEqual(time(system(4), system(6), before(1, 0)), (10, [1, 0]))

    def test_one_waits_by_what_is_between(self):
        systems = [system(4), system(6), system(3)]
        self.assertEqual(time(*systems, before(0, 1), before(1, 2)), (13, [0, 1, 2]))
        self.assertEqual(time(*systems, before(2, 0), before(0, 1)), (13, [2, 0, 1]))

    def test_a_clash_follows_the_order_not_the_number(self):
        # In order 1, 2, 0: 0 waits for 1 by their clash alone.
        systems = [writer(3, cost=4), writer(3, cost=6), system(1)]
        self.assertEqual(time(*systems, before(2, 0)), (10, [1, 0]))
        self.assertEqual(time(*systems), (10, [0, 1]))

    def test_it_waits_for_the_last_of_several(self):
        systems = [writer(0, cost=5), writer(1, cost=9), writer(2, cost=7), reader(0, 1, 2, cost=1)]
        self.assertEqual(time(*systems), (10, [1, 3]))
        paired = [system(5), system(9), system(7), system(1)]
        self.assertEqual(time(*paired, before(0, 3), before(1, 3), before(2, 3)), (10, [1, 3]))

    def test_it_waits_for_no_others_than_must_be_over(self):
        # 2 begins when 0 is over, in the midst of 1, though rounds would let it wait for both.
        self.assertEqual(time(writer(0, cost=5), writer(1, cost=9), reader(0, cost=3)), (9, [1]))
        self.assertEqual(time(writer(0, cost=5), writer(1, cost=9), reader(0, cost=6)), (11, [0, 2]))

    def test_the_longest_there_can_be(self):
        systems = [system(999, [], [0]) for place in range(10)]
        self.assertEqual(time(*systems), (9990, list(range(10))))

    def test_it_follows_what_there_is_now(self):
        found = ask(system(4), system(6), system(3), before(0, 1), TIME, free(0, 1), TIME, before(2, 1), TIME,
                    gone(2), TIME)
        self.assertEqual(found[4::2], [[10, 2, 0, 1], [6, 1, 1], [9, 2, 2, 1], [6, 1, 1]])

    def test_it_changes_nothing(self):
        found = ask(*plain(2), before(1, 0), TIME, TIME, ORDER, system(), before(1, 0))
        self.assertEqual(found[3:], [[2, 2, 1, 0], [2, 2, 1, 0], [2, 1, 0], [2], [-4]])


class Chain(unittest.TestCase):
    def test_of_several_that_are_over_last_the_first_in_order(self):
        self.assertEqual(time(system(3), system(8), system(8)), (8, [1]))

    def test_the_first_in_order_not_the_lowest_number(self):
        systems = [system(5), system(3), system(8)]
        self.assertEqual(ask(*systems, before(1, 0), ORDER, TIME)[4:], [[3, 1, 0, 2], [8, 2, 1, 0]])
        # 0 is over at 8 too, behind 2, but 1 is ahead of it in order.
        systems = [system(5), system(8), system(3)]
        self.assertEqual(ask(*systems, before(2, 0), ORDER, TIME)[4:], [[3, 1, 2, 0], [8, 1, 1]])

    def test_one_that_is_over_last_though_not_last_in_order(self):
        self.assertEqual(time(system(9), system(2), system(3), before(1, 2)), (9, [0]))

    def test_back_by_the_one_that_was_over_just_then(self):
        # 3 begins at 9, when 1 is over: 0 and 2 were over before.
        systems = [system(5), system(9), system(7), system(1)]
        told = [before(0, 3), before(1, 3), before(2, 3)]
        self.assertEqual(time(*systems, *told), (10, [1, 3]))

    def test_back_by_the_first_in_order_of_several(self):
        systems = [system(5), system(5), system(5), system(1)]
        self.assertEqual(time(*systems, before(2, 3), before(1, 3), before(0, 3)), (6, [0, 3]))
        self.assertEqual(time(*systems, before(2, 3), before(1, 3)), (6, [1, 3]))

    def test_back_by_order_not_by_number(self):
        # In order 1, 2, 0, 3: both 1 (from 0) and 0 (behind 2) are over at 6 when 3 begins.
        systems = [system(2), system(6), system(4), system(1)]
        told = [before(2, 0), before(0, 3), before(1, 3)]
        self.assertEqual(ask(*systems, *told, ORDER, TIME)[7:], [[4, 1, 2, 0, 3], [7, 2, 1, 3]])

    def test_back_only_by_those_that_must_be_over(self):
        # 0 is over just when 2 begins, too, but 2 does not wait for it.
        self.assertEqual(time(system(5), writer(1, cost=5), reader(1, cost=2)), (7, [1, 2]))

    def test_back_by_a_clash_that_is_told_too(self):
        self.assertEqual(time(writer(1, cost=5), reader(1, cost=2), before(1, 0)), (7, [1, 0]))

    def test_several_steps_told_forwards(self):
        # 2 waits for 0 till 4; 4 for 2 till 9, for 1 till 3; 3 is beside them.
        systems = [writer(0, cost=4), writer(1, cost=3), system(5, [0], [2]), system(8), reader(1, 2, cost=6)]
        self.assertEqual(ask_last(*systems, TIME), [15, 3, 0, 2, 4])

    def test_the_rounds_of_a_chain_need_not_follow_one_another(self):
        # By rounds 4 is behind 0, 1 and 2; by time it waits for 3, that is over later.
        systems = [writer(0), system(1, [0], [1]), system(1, [1], [2]), writer(3, cost=50), reader(2, 3, cost=2)]
        self.assertEqual(time(*systems), (52, [3, 4]))

    def test_it_stops_at_one_that_began_at_0(self):
        # 1 begins at 0: 0 is no link, though it's ahead in order and over when 2 begins.
        systems = [system(2), writer(1, cost=2), system(3, [1], [2]), reader(2, cost=4)]
        self.assertEqual(time(*systems), (9, [1, 2, 3]))
        self.assertEqual(time(*systems, before(0, 1)), (11, [0, 1, 2, 3]))

    def test_numbers_behind_gone(self):
        systems = [system(9), writer(1, cost=2), writer(1, cost=3), gone(0), reader(1, cost=4)]
        self.assertEqual(time(*systems), (9, [1, 2, 3]))


if __name__ == "__main__":
    unittest.main()
