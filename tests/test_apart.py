"""Point 3: apart."""

import unittest

from tests.asking import ORDER, TOP, apart, ask, ask_last, before, free, gone, plain, reader, system, writer

ALL_KINDS = list(range(16))


class Refused(unittest.TestCase):
    def test_either_was_never_given(self):
        self.assertEqual(ask(system(), apart(0, 1), apart(1, 0), apart(0, TOP), apart(TOP, 0))[1:], [[-2]] * 4)

    def test_either_is_gone(self):
        found = ask(writer(1), writer(1), before(0, 1), gone(1), apart(0, 1), apart(1, 0), apart(0, 0))
        self.assertEqual(found[4:], [[-2], [-2], [0, 1, 1]])

    def test_the_same_one_that_is_not_there(self):
        self.assertEqual(ask(apart(0, 0), system(), gone(0), apart(0, 0), apart(TOP, TOP)),
                         [[-2], [0], [0, 0], [-2], [-2]])

    def test_a_refusal_changes_nothing(self):
        found = ask(*plain(2), before(1, 0), apart(0, 2), apart(2, 0), ORDER, system(), before(1, 0))
        self.assertEqual(found[3:], [[-2], [-2], [2, 1, 0], [2], [-4]])


class Told(unittest.TestCase):
    def test_neither(self):
        self.assertEqual(ask(*plain(2), apart(0, 1), apart(1, 0))[2:], [[0, 0], [0, 0]])

    def test_as_a_pair(self):
        self.assertEqual(ask(*plain(2), before(0, 1), apart(0, 1), apart(1, 0))[3:], [[1, 0], [2, 0]])
        self.assertEqual(ask(*plain(2), before(1, 0), apart(0, 1), apart(1, 0))[3:], [[2, 0], [1, 0]])

    def test_by_what_is_between(self):
        told = [*plain(4), before(2, 0), before(0, 3), before(3, 1)]
        self.assertEqual(ask(*told, apart(2, 3), apart(2, 1), apart(0, 1))[7:], [[1, 0]] * 3)
        self.assertEqual(ask(*told, apart(3, 2), apart(1, 2), apart(1, 0))[7:], [[2, 0]] * 3)

    def test_both_before_a_third_or_behind_it(self):
        self.assertEqual(ask_last(*plain(3), before(0, 1), before(2, 1), apart(0, 2)), [0, 0])
        self.assertEqual(ask_last(*plain(3), before(1, 0), before(1, 2), apart(0, 2)), [0, 0])

    def test_the_place_in_order_tells_nothing(self):
        # 2 comes ahead of 0 in order through no pair of theirs.
        self.assertEqual(ask(*plain(4), before(3, 0), ORDER, apart(2, 0), apart(0, 2))[5:],
                         [[4, 1, 2, 3, 0], [0, 0], [0, 0]])

    def test_a_clash_tells_nothing(self):
        self.assertEqual(ask(writer(1), writer(1), apart(0, 1), apart(1, 0))[2:], [[0, 1, 1], [0, 1, 1]])

    def test_no_more_behind_free_or_gone(self):
        told = [*plain(3), before(0, 1), before(1, 2)]
        self.assertEqual(ask(*told, apart(0, 2), free(0, 1), apart(0, 2))[5:], [[1, 0], [1], [0, 0]])
        self.assertEqual(ask(*told, apart(2, 0), gone(1), apart(2, 0))[5:], [[2, 0], [2, 0], [0, 0]])


class Kinds(unittest.TestCase):
    def assert_kinds(self, one, other, kinds):
        self.assertEqual(ask(one, other, apart(0, 1), apart(1, 0))[2:], [[0, len(kinds), *kinds]] * 2)
        self.assertEqual(ask(one, other, before(0, 1), apart(0, 1), apart(1, 0))[3:],
                         [[1, len(kinds), *kinds], [2, len(kinds), *kinds]])

    def test_none(self):
        self.assert_kinds(system(), system(), [])
        self.assert_kinds(system(1, [0], [1]), system(1, [2], [3]), [])

    def test_write_and_write(self):
        self.assert_kinds(writer(3), writer(3), [3])

    def test_write_and_read_either_way(self):
        self.assert_kinds(writer(3), reader(3), [3])
        self.assert_kinds(reader(3), writer(3), [3])

    def test_a_kind_that_both_only_read(self):
        self.assert_kinds(reader(3), reader(3), [])
        self.assert_kinds(system(1, [3, 5], [6]), system(1, [3, 6], [7]), [6])

    def test_several_rising_by_write_and_read_either_way(self):
        # 9 by write and read, 2 by read and write, 5 by write and write, 7 that both only read.
        self.assert_kinds(system(1, [2, 7], [5, 9]), system(1, [7, 9], [2, 5]), [2, 5, 9])
        self.assert_kinds(system(1, [7, 9], [2, 5]), system(1, [2, 7], [5, 9]), [2, 5, 9])

    def test_each_once(self):
        # Both read and write 4: it's a clash in every way.
        self.assert_kinds(system(1, [4], [4]), system(1, [4], [4]), [4])
        self.assert_kinds(system(1, ALL_KINDS, ALL_KINDS), system(1, ALL_KINDS, ALL_KINDS), ALL_KINDS)

    def test_kinds_0_and_15(self):
        self.assert_kinds(writer(0, 15), reader(0, 15), [0, 15])

    def test_what_one_reads_and_writes_itself_is_not_the_others(self):
        self.assert_kinds(system(1, [1], [1]), system(1, [2], [2]), [])


class SameOneTwice(unittest.TestCase):
    def test_the_kinds_that_it_writes(self):
        self.assertEqual(ask_last(system(), apart(0, 0)), [0, 0])
        self.assertEqual(ask_last(writer(3, 8), apart(0, 0)), [0, 2, 3, 8])
        self.assertEqual(ask_last(system(1, [3], [3]), apart(0, 0)), [0, 1, 3])
        self.assertEqual(ask_last(system(1, [2, 5, 9], [0, 5, 15]), apart(0, 0)), [0, 3, 0, 5, 15])

    def test_a_kind_that_it_only_reads_is_none(self):
        self.assertEqual(ask_last(reader(3), apart(0, 0)), [0, 0])

    def test_0_though_pairs_are_told(self):
        told = [writer(1), *plain(2), before(0, 1), before(2, 0)]
        self.assertEqual(ask(*told, apart(0, 0), apart(1, 1), apart(2, 2))[5:], [[0, 1, 1], [0, 0], [0, 0]])


if __name__ == "__main__":
    unittest.main()
