"""Points 7 and 8: count and above."""

import unittest

from tests.calls import BEGIN, COUNT, EACH_LACKS_ONE, LEAST, MOST, MOST_SET, SMALL
from tests.calls import above, close, each_answer, last_answer, marks, table_of, thing


class Count(unittest.TestCase):
    def test_without_things_all_marks_alone_are_closed(self):
        for amount in range(1, 13):
            self.assertEqual(last_answer(table_of(amount, []) + [COUNT]), [1])

    def test_with_things(self):
        self.assertEqual(last_answer(table_of(3, SMALL) + [COUNT]), [5])

    def test_a_thing_with_all_marks_brings_none(self):
        self.assertEqual(last_answer(table_of(3, [7]) + [COUNT]), [1])

    def test_a_thing_without_marks_brings_the_empty_set(self):
        self.assertEqual(last_answer(table_of(3, [0]) + [COUNT]), [2])

    def test_the_same_thing_twice_brings_none(self):
        calls = table_of(3, [0b011]) + [COUNT, thing(0b011), COUNT, thing(0b010), COUNT, thing(0b011), COUNT]
        self.assertEqual(each_answer(calls)[3:], [[2], [1], [2], [2], [3], [3], [3]])

    def test_12_marks_and_all_sets_closed(self):
        self.assertEqual(last_answer(table_of(12, EACH_LACKS_ONE) + [COUNT]), [4096])

    def test_each_thing_counts_from_then_on(self):
        calls = table_of(12, [])
        for owned in EACH_LACKS_ONE:
            calls = calls + [COUNT, thing(owned)]
        told = [[1 << number] for number in range(13)]
        self.assertEqual(each_answer(calls + [COUNT])[2::2], told)

    def test_a_refused_thing_and_a_refused_marks_leave_it(self):
        calls = table_of(3, SMALL) + [COUNT, thing(8), COUNT, marks(0), COUNT, marks(21), COUNT]
        self.assertEqual(each_answer(calls)[5:], [[5], [-1], [5], [-1], [5], [-1], [5]])

    def test_marks_again(self):
        calls = table_of(3, SMALL) + [COUNT, marks(3), COUNT, marks(4), thing(0), COUNT]
        self.assertEqual(each_answer(calls)[5:], [[5], [0], [1], [0], [0], [2]])

    def test_no_table(self):
        self.assertEqual(last_answer([BEGIN, COUNT]), [-4])
        self.assertEqual(last_answer([BEGIN, marks(21), COUNT]), [-4])
        self.assertEqual(last_answer(table_of(3, SMALL) + [COUNT, BEGIN, COUNT]), [-4])


class Above(unittest.TestCase):
    def assert_above(self, amount, things, wanted, told):
        asked = range(-2, len(told) + 2)
        calls = table_of(amount, things) + [above(wanted, k) for k in asked]
        expected = [[len(told), told[k]] if 0 <= k < len(told) else [-3] for k in asked]
        self.assertEqual(each_answer(calls)[2 + len(things):], expected)

    def test_each_closed_set_of_a_small_table(self):
        self.assert_above(3, SMALL, 0, [2, 4])
        self.assert_above(3, SMALL, 2, [3])
        self.assert_above(3, SMALL, 3, [7])
        self.assert_above(3, SMALL, 4, [7])

    def test_in_the_order_of_the_sets_not_of_the_marks(self):
        # Mark 0 brings mark 2 along, so what it leads to comes behind mark 1 alone.
        self.assert_above(3, [0b101, 0b010], 0, [0b010, 0b101])

    def test_what_two_marks_lead_to_counts_once(self):
        self.assert_above(4, [0b0011, 0b1100], 0, [0b0011, 0b1100])

    def test_a_third_set_between(self):
        # One above another: 0, then 4, then 6, then 7.
        self.assert_above(3, [0b000, 0b100, 0b110], 0, [4])
        self.assert_above(3, [0b000, 0b100, 0b110], 4, [6])
        self.assert_above(3, [0b000, 0b100, 0b110], 6, [7])

    def test_each_k_with_12_marks(self):
        self.assert_above(12, EACH_LACKS_ONE, 0, [1 << mark for mark in range(12)])
        self.assert_above(12, EACH_LACKS_ONE, 0b101, [0b101 + (1 << mark) for mark in (1, 3, 4, 5, 6, 7, 8, 9, 10, 11)])
        self.assert_above(12, EACH_LACKS_ONE, 4094, [4095])

    def test_nothing_above_all_marks(self):
        self.assert_above(3, SMALL, 7, [])
        self.assert_above(3, [], 7, [])
        self.assert_above(12, EACH_LACKS_ONE, 4095, [])

    def test_a_set_that_is_not_closed(self):
        for wanted in (1, 5, 6):
            for k in (-1, 0, 1):
                self.assertEqual(last_answer(table_of(3, SMALL) + [above(wanted, k)]), [-3])
        for wanted in range(7):
            self.assertEqual(last_answer(table_of(3, []) + [above(wanted, 0)]), [-3])

    def test_the_farthest_k(self):
        calls = table_of(3, SMALL) + [above(0, k) for k in (LEAST, -1, 2, MOST)]
        self.assertEqual(each_answer(calls)[5:], [[-3]] * 4)

    def test_a_later_thing_counts(self):
        calls = table_of(3, SMALL) + [above(0, 0), thing(1), above(0, 0), close(1), above(1, 0)]
        self.assertEqual(each_answer(calls)[5:], [[2, 2], [3], [3, 1], [1, 1], [1, 3]])

    def test_no_table_ahead_of_all_else(self):
        for wanted in (0, 8, MOST_SET):
            for k in (LEAST, 0, MOST):
                self.assertEqual(last_answer([BEGIN, above(wanted, k)]), [-4])

    def test_a_wrong_mark_ahead_of_what_is_not_there(self):
        for wanted in (8, 9, 15, MOST_SET):
            for k in (LEAST, -1, 0, MOST):
                self.assertEqual(last_answer(table_of(3, SMALL) + [above(wanted, k)]), [-1])

    def test_k_is_no_set(self):
        # 8 would be a mark that there isn't.
        self.assertEqual(last_answer(table_of(3, SMALL) + [above(0, 8)]), [-3])
        self.assertEqual(last_answer(table_of(1, [0]) + [above(0, 2)]), [-3])


if __name__ == "__main__":
    unittest.main()
