"""Points 9 to 12: basis, holds, rule, follows."""

import unittest

from tests.calls import BEGIN, EACH_LACKS_ONE, LEAST, MOST, MOST_SET, SMALL
from tests.calls import basis, each_answer, follows, holds, last_answer, marks, rule, table_of, thing

WITH_TWO_SETS = (holds, rule, follows)


class TwoSets(unittest.TestCase):
    def test_no_table_ahead_of_all_else(self):
        for call in WITH_TWO_SETS:
            for first, second in ((0, 0), (8, 0), (0, 8), (MOST_SET, MOST_SET)):
                self.assertEqual(last_answer([BEGIN, call(first, second)]), [-4])
                self.assertEqual(last_answer(table_of(3, SMALL) + [BEGIN, call(first, second)]), [-4])

    def test_a_wrong_mark_in_the_first_or_the_second(self):
        for call in WITH_TWO_SETS:
            for wrong in (8, 9, 15, 1 << 31, MOST_SET):
                for first, second in ((wrong, 0), (0, wrong), (7, wrong), (wrong, 7), (wrong, wrong)):
                    self.assertEqual(last_answer(table_of(3, SMALL) + [call(first, second)]), [-1])

    def test_the_highest_mark_is_there(self):
        for call in WITH_TWO_SETS:
            self.assertGreaterEqual(last_answer(table_of(3, SMALL) + [call(7, 7)])[0], 0)
            self.assertGreaterEqual(last_answer(table_of(12, []) + [call(4095, 4095)])[0], 0)


class Basis(unittest.TestCase):
    def assert_basis(self, amount, things, told):
        asked = range(-2, len(told) + 2)
        calls = table_of(amount, things) + [basis(k) for k in asked]
        expected = [[len(told), told[k][0], told[k][1]] if 0 <= k < len(told) else [-3] for k in asked]
        self.assertEqual(each_answer(calls)[2 + len(things):], expected)

    def test_without_things(self):
        for amount in range(1, 13):
            self.assert_basis(amount, [], [(0, (1 << amount) - 1)])

    def test_one_thing(self):
        self.assert_basis(3, [0b000], [(1, 7), (2, 7), (4, 7)])
        self.assert_basis(3, [0b010], [(0, 2), (3, 7), (6, 7)])
        self.assert_basis(3, [0b011], [(0, 3)])
        self.assert_basis(3, [0b111], [(0, 7)])
        self.assert_basis(1, [1], [(0, 1)])

    def test_one_thing_with_12_marks(self):
        self.assert_basis(12, [0], [(1 << mark, 4095) for mark in range(12)])
        self.assert_basis(12, [4095 - 7], [(0, 4088), (4089, 4095), (4090, 4095), (4092, 4095)])

    def test_a_small_table(self):
        # {0, 2} isn't of it, as it has 0 and not 1; {1, 2} is.
        self.assert_basis(3, SMALL, [(1, 3), (6, 7)])

    def test_a_set_that_keeps_to_the_closures_of_those_within_it(self):
        # {0} brings 1: {0, 1, 2} has both and is of the basis, {0, 2} isn't.
        things = [0b0011, 0b0110, 0b0100, 0b1000]
        self.assert_basis(4, things, [(1, 3), (7, 15), (10, 15), (12, 15)])

    def test_the_same_thing_twice(self):
        self.assert_basis(3, SMALL + SMALL, [(1, 3), (6, 7)])

    def test_empty(self):
        self.assert_basis(1, [0], [])
        self.assert_basis(3, [3, 5, 6], [])
        self.assert_basis(12, EACH_LACKS_ONE, [])

    def test_the_farthest_k(self):
        calls = table_of(3, SMALL) + [basis(k) for k in (LEAST, -1, 2, 8, MOST)]
        self.assertEqual(each_answer(calls)[5:], [[-3]] * 5)

    def test_a_later_thing_counts(self):
        calls = table_of(3, SMALL) + [basis(0), thing(1), basis(0), basis(1), thing(5), basis(0), thing(6), basis(0)]
        self.assertEqual(each_answer(calls)[5:], [[2, 1, 3], [3], [2, 5, 7], [2, 6, 7], [4], [1, 6, 7], [5], [-3]])

    def test_a_refused_call_leaves_it(self):
        calls = table_of(3, SMALL) + [basis(0), thing(8), basis(0), marks(21), basis(1)]
        self.assertEqual(each_answer(calls)[5:], [[2, 1, 3], [-1], [2, 1, 3], [-1], [2, 6, 7]])

    def test_marks_again(self):
        calls = table_of(3, SMALL) + [basis(0), marks(3), basis(0), marks(2), basis(0)]
        self.assertEqual(each_answer(calls)[5:], [[2, 1, 3], [0], [1, 0, 7], [0], [1, 0, 3]])

    def test_kept_rules_play_no_part(self):
        calls = table_of(3, SMALL) + [rule(0, 7), basis(0), basis(1), basis(2)]
        self.assertEqual(each_answer(calls)[6:], [[2, 1, 3], [2, 6, 7], [-3]])

    def test_no_table_ahead_of_none(self):
        for k in (LEAST, -1, 0, MOST):
            self.assertEqual(last_answer([BEGIN, basis(k)]), [-4])
            self.assertEqual(last_answer(table_of(3, SMALL) + [basis(0), BEGIN, basis(k)]), [-4])


class Holds(unittest.TestCase):
    def test_holds_and_does_not(self):
        told = [((1, 2), 1), ((1, 3), 1), ((2, 1), 0), ((4, 1), 0), ((4, 4), 1), ((3, 4), 0), ((2, 3), 0)]
        calls = table_of(3, SMALL) + [holds(first, second) for (first, second), kept in told]
        self.assertEqual(each_answer(calls)[5:], [[kept] for pair, kept in told])

    def test_no_thing_has_the_first(self):
        calls = table_of(3, SMALL) + [holds(5, second) for second in range(8)] + [holds(7, 0)]
        self.assertEqual(each_answer(calls)[5:], [[1]] * 9)

    def test_without_things(self):
        calls = table_of(2, []) + [holds(first, second) for first in range(4) for second in range(4)]
        self.assertEqual(each_answer(calls)[2:], [[1]] * 16)

    def test_the_empty_set_first(self):
        calls = table_of(3, [0b011, 0b010]) + [holds(0, second) for second in range(8)]
        self.assertEqual(each_answer(calls)[4:], [[1], [0], [1], [0], [0], [0], [0], [0]])

    def test_the_empty_set_second(self):
        calls = table_of(3, SMALL) + [holds(first, 0) for first in range(8)]
        self.assertEqual(each_answer(calls)[5:], [[1]] * 8)

    def test_one_thing_that_breaks_it(self):
        calls = table_of(2, [3] * 63) + [holds(1, 2), thing(1), holds(1, 2), holds(2, 1)]
        self.assertEqual(each_answer(calls)[65:], [[1], [63], [0], [1]])

    def test_kept_rules_play_no_part(self):
        calls = table_of(3, SMALL) + [rule(2, 1), holds(2, 1)]
        self.assertEqual(last_answer(calls), [0])


class Rule(unittest.TestCase):
    def test_numbers_from_0_to_255_then_full(self):
        calls = table_of(3, SMALL) + [rule(number % 8, number // 8 % 8) for number in range(258)]
        told = [[number] for number in range(256)]
        self.assertEqual(each_answer(calls)[5:], told + [[-2], [-2]])

    def test_the_same_rule_is_one_more(self):
        calls = table_of(3, SMALL) + [rule(1, 2), rule(1, 2), rule(0, 0)]
        self.assertEqual(each_answer(calls)[5:], [[0], [1], [2]])

    def test_a_wrong_mark_ahead_of_full(self):
        calls = table_of(3, []) + [rule(1, 2)] * 256 + [rule(8, 0), rule(0, 8), rule(0, 7)]
        self.assertEqual(each_answer(calls)[-3:], [[-1], [-1], [-2]])

    def test_a_wrong_mark_keeps_nothing(self):
        calls = table_of(3, []) + [rule(8, 0), rule(0, 8), rule(1, 2)]
        self.assertEqual(each_answer(calls)[2:], [[-1], [-1], [0]])

    def test_the_256th_is_kept_and_the_257th_is_not(self):
        calls = table_of(3, []) + [rule(0, 0)] * 255
        calls = calls + [follows(1, 2), rule(1, 2), follows(1, 2), rule(2, 4), follows(2, 4)]
        self.assertEqual(each_answer(calls)[-5:], [[0], [255], [1], [-2], [0]])

    def test_gone_after_begin(self):
        calls = table_of(3, []) + [rule(1, 2), BEGIN, rule(1, 2), marks(3), follows(1, 2), rule(1, 2)]
        self.assertEqual(each_answer(calls)[2:], [[0], [0], [-4], [0], [0], [0]])

    def test_gone_after_marks(self):
        calls = table_of(3, SMALL) + [rule(1, 2), follows(1, 2), marks(3), follows(1, 2), rule(1, 2)]
        self.assertEqual(each_answer(calls)[5:], [[0], [1], [0], [0], [0]])

    def test_full_can_be_made_anew(self):
        calls = table_of(3, []) + [rule(1, 2)] * 257 + [marks(3), rule(1, 2)]
        self.assertEqual(each_answer(calls)[-3:], [[-2], [0], [0]])

    def test_stay_after_a_refused_marks(self):
        for wrong in (0, -1, 21, LEAST, MOST):
            calls = table_of(3, SMALL) + [rule(1, 2), marks(wrong), follows(1, 2), rule(1, 2)]
            self.assertEqual(each_answer(calls)[5:], [[0], [-1], [1], [1]])

    def test_stay_after_a_thing(self):
        calls = table_of(3, SMALL) + [rule(1, 2), thing(5), thing(8), follows(1, 2), rule(1, 2)]
        self.assertEqual(each_answer(calls)[5:], [[0], [3], [-1], [1], [1]])


class Follows(unittest.TestCase):
    def test_without_rules_what_is_within_the_first(self):
        calls = table_of(3, SMALL) + [follows(first, second) for first in range(8) for second in range(8)]
        told = [[int(second & ~first == 0)] for first in range(8) for second in range(8)]
        self.assertEqual(each_answer(calls)[5:], told)

    def test_one_behind_another_in_any_order_of_telling(self):
        forward = [rule(1 << mark, 2 << mark) for mark in range(11)]
        mixed = forward[1::3] + forward[0::3][::-1] + forward[2::3]
        for told in (forward, forward[::-1], mixed):
            calls = table_of(12, []) + told + [follows(1, 2048), follows(1, 4095), follows(2, 1), follows(2, 4094)]
            self.assertEqual(each_answer(calls)[-4:], [[1], [1], [0], [1]])

    def test_a_rule_that_needs_two_others(self):
        for told in ([rule(6, 8), rule(1, 2), rule(1, 4)], [rule(1, 4), rule(6, 8), rule(1, 2)]):
            calls = table_of(4, []) + told + [follows(1, 8), follows(2, 8), follows(4, 8), follows(6, 8)]
            self.assertEqual(each_answer(calls)[-4:], [[1], [0], [0], [1]])

    def test_part_of_the_first_is_not_enough(self):
        calls = table_of(3, []) + [rule(3, 4), follows(1, 4), follows(2, 4), follows(3, 4), follows(3, 7)]
        self.assertEqual(each_answer(calls)[3:], [[0], [0], [1], [1]])

    def test_all_of_the_second_is_asked_for(self):
        calls = table_of(3, []) + [rule(1, 2), follows(1, 2), follows(1, 6), follows(1, 4)]
        self.assertEqual(each_answer(calls)[3:], [[1], [0], [0]])

    def test_a_rule_with_an_empty_first(self):
        calls = table_of(3, []) + [rule(2, 4), rule(0, 2)]
        calls = calls + [follows(0, 2), follows(0, 6), follows(1, 7), follows(0, 1)]
        self.assertEqual(each_answer(calls)[4:], [[1], [1], [1], [0]])

    def test_a_rule_with_an_empty_second(self):
        calls = table_of(3, []) + [rule(1, 0), follows(1, 2), follows(1, 0), follows(0, 0)]
        self.assertEqual(each_answer(calls)[3:], [[0], [1], [1]])

    def test_a_rule_that_does_not_hold_in_the_table(self):
        calls = table_of(3, SMALL) + [holds(4, 1), rule(4, 1), follows(4, 1), follows(6, 3), holds(4, 1)]
        self.assertEqual(each_answer(calls)[5:], [[0], [0], [1], [1], [0]])

    def test_things_play_no_part(self):
        calls = table_of(3, SMALL) + [holds(1, 2), follows(1, 2), thing(7), follows(1, 2), follows(5, 2)]
        self.assertEqual(each_answer(calls)[5:], [[1], [0], [3], [0], [0]])
        self.assertEqual(each_answer(table_of(3, []) + [holds(0, 7), follows(0, 7)])[2:], [[1], [0]])

    def test_nothing_is_kept_by_it(self):
        calls = table_of(3, []) + [follows(1, 2), holds(1, 2), follows(1, 2), rule(1, 4)]
        self.assertEqual(each_answer(calls)[2:], [[0], [1], [0], [0]])


class TheBasisIsEnough(unittest.TestCase):
    def test_from_the_basis_all_that_holds_follows_and_nothing_else(self):
        things = [0b00111, 0b01110, 0b10101, 0b11000, 0b00100]
        asked = [(first, second) for first in range(0, 32, 3) for second in range(0, 32, 5)]
        told = each_answer(table_of(5, things) + [basis(k) for k in range(33)])[7:]
        rules = [rule(answer[1], answer[2]) for answer in told if len(answer) == 3]
        self.assertEqual(len(rules), told[0][0])
        calls = table_of(5, things) + rules
        left = each_answer(calls + [holds(first, second) for first, second in asked])[len(calls):]
        right = each_answer(calls + [follows(first, second) for first, second in asked])[len(calls):]
        self.assertEqual(left, right)


if __name__ == "__main__":
    unittest.main()
