"""Points 1 to 6: begin, marks, thing, close, having, next."""

import unittest

from tests.calls import BEGIN, LEAST, MOST, MOST_SET, SMALL
from tests.calls import close, each_answer, following, having, last_answer, marks, table_of, thing

WITH_A_SET = (thing, close, having, following)


class BeginAndCommonRefusals(unittest.TestCase):
    def test_begin_answers_0(self):
        self.assertEqual(each_answer([BEGIN, BEGIN]), [[0], [0]])

    def test_no_table_before_marks(self):
        for call in WITH_A_SET:
            self.assertEqual(last_answer([BEGIN, call(0)]), [-4])

    def test_begin_again_leaves_no_table(self):
        for call in WITH_A_SET:
            self.assertEqual(each_answer(table_of(3, SMALL) + [BEGIN, call(0)])[-2:], [[0], [-4]])

    def test_begin_again_leaves_no_things(self):
        calls = table_of(3, SMALL) + [BEGIN, marks(3), having(0), thing(1)]
        self.assertEqual(each_answer(calls)[-2:], [[0, 0], [0]])

    def test_no_table_is_looked_at_before_the_set(self):
        for call in WITH_A_SET:
            for wrong in (1, 8, MOST_SET):
                self.assertEqual(last_answer([BEGIN, call(wrong)]), [-4])

    def test_a_mark_that_there_is_not(self):
        for call in WITH_A_SET:
            for wrong in (8, 9, 15, 1 << 31, MOST_SET):
                self.assertEqual(last_answer(table_of(3, SMALL) + [call(wrong)]), [-1])
            self.assertEqual(last_answer(table_of(1, []) + [call(2)]), [-1])
            self.assertEqual(last_answer(table_of(12, []) + [call(4096)]), [-1])

    def test_the_highest_mark_is_there(self):
        for call in (thing, close, having):
            self.assertGreaterEqual(last_answer(table_of(3, SMALL) + [call(7)])[0], 0)
            self.assertGreaterEqual(last_answer(table_of(12, []) + [call(4095)])[0], 0)

    def test_a_refusal_changes_nothing(self):
        calls = [BEGIN, thing(1), marks(2), having(0), thing(4), having(0), thing(3)]
        self.assertEqual(each_answer(calls), [[0], [-4], [0], [0, 0], [-1], [0, 0], [0]])


class Marks(unittest.TestCase):
    def test_from_1_to_12(self):
        for amount in range(1, 13):
            every = (1 << amount) - 1
            calls = [BEGIN, marks(amount), close(every), close(every + 1)]
            self.assertEqual(each_answer(calls)[1:], [[0], [1, every], [-1]])

    def test_outside(self):
        for amount in (0, -1, -12, 21, 22, 32, LEAST, MOST):
            self.assertEqual(each_answer([BEGIN, marks(amount), close(0)]), [[0], [-1], [-4]])

    def test_outside_leaves_the_table_as_it_was(self):
        for amount in (0, -1, 21, LEAST, MOST):
            calls = table_of(3, SMALL) + [marks(amount), having(0), close(1), close(8), thing(7)]
            self.assertEqual(each_answer(calls)[5:], [[-1], [3, 7], [0, 3], [-1], [3]])

    def test_again_leaves_no_things(self):
        calls = table_of(3, SMALL) + [marks(4), having(0), close(0), close(15), thing(9)]
        self.assertEqual(each_answer(calls)[5:], [[0], [0, 0], [0, 15], [1, 15], [0]])

    def test_again_with_fewer_marks(self):
        calls = table_of(3, SMALL) + [marks(2), close(4), close(0)]
        self.assertEqual(each_answer(calls)[5:], [[0], [-1], [0, 3]])


class Thing(unittest.TestCase):
    def test_numbers_from_0_to_63_then_full(self):
        calls = table_of(4, [number % 16 for number in range(66)])
        told = [[number] for number in range(64)]
        self.assertEqual(each_answer(calls), [[0], [0]] + told + [[-2], [-2]])

    def test_same_marks_are_another_thing(self):
        self.assertEqual(each_answer(table_of(2, [1, 1, 0, 0]))[2:], [[0], [1], [2], [3]])

    def test_wrong_mark_is_looked_at_before_full(self):
        calls = table_of(4, [0] * 64) + [thing(16), thing(15)]
        self.assertEqual(each_answer(calls)[-2:], [[-1], [-2]])

    def test_wrong_mark_adds_nothing(self):
        calls = table_of(2, [1, 4, 2]) + [having(0), having(2)]
        self.assertEqual(each_answer(calls)[2:], [[0], [-1], [1], [2, 3], [1, 2]])

    def test_full_changes_nothing(self):
        calls = table_of(2, [3] * 64) + [thing(0), having(0), close(0)]
        self.assertEqual(each_answer(calls)[-3:], [[-2], [64, 2 ** 64 - 1], [0, 3]])

    def test_full_table_can_be_made_anew(self):
        calls = table_of(2, [3] * 65) + [marks(2), thing(1)]
        self.assertEqual(each_answer(calls)[-3:], [[-2], [0], [0]])


class Close(unittest.TestCase):
    def test_every_set_of_a_small_table(self):
        told = [[1, 0], [0, 3], [1, 2], [1, 3], [1, 4], [0, 7], [0, 7], [1, 7]]
        calls = table_of(3, SMALL) + [close(wanted) for wanted in range(8)]
        self.assertEqual(each_answer(calls)[5:], told)

    def test_without_things_all_marks_are_the_closure(self):
        calls = table_of(3, []) + [close(wanted) for wanted in range(8)]
        self.assertEqual(each_answer(calls)[2:], [[0, 7]] * 7 + [[1, 7]])

    def test_what_all_things_have_is_the_closure_of_nothing(self):
        self.assertEqual(last_answer(table_of(4, [0b0110, 0b0011, 0b1010]) + [close(0)]), [0, 2])

    def test_a_set_that_no_thing_has(self):
        self.assertEqual(last_answer(table_of(4, [1, 2, 4]) + [close(3)]), [0, 15])

    def test_a_later_thing_counts(self):
        calls = table_of(3, [7]) + [close(1), thing(1), close(1)]
        self.assertEqual(each_answer(calls)[3:], [[0, 7], [1], [1, 1]])


class Having(unittest.TestCase):
    def test_none_some_and_all(self):
        calls = table_of(3, SMALL) + [having(5), having(1), having(2), having(4), having(0)]
        self.assertEqual(each_answer(calls)[5:], [[0, 0], [1, 1], [2, 3], [1, 4], [3, 7]])

    def test_without_things(self):
        self.assertEqual(each_answer(table_of(3, []) + [having(0), having(7)])[2:], [[0, 0], [0, 0]])

    def test_64_things(self):
        calls = table_of(1, [0] * 63 + [1]) + [having(0), having(1)]
        self.assertEqual(each_answer(calls)[-2:], [[64, 2 ** 64 - 1], [1, 2 ** 63]])


class Next(unittest.TestCase):
    def test_every_set_of_a_small_table(self):
        told = [[0, 2], [0, 2], [0, 3], [0, 4], [0, 7], [0, 7], [0, 7], [-3]]
        calls = table_of(3, SMALL) + [following(wanted) for wanted in range(8)]
        self.assertEqual(each_answer(calls)[5:], told)

    def test_behind_a_set_that_is_not_closed_its_closure_need_not_come(self):
        # The closure of {0} is {0, 2}, but {1} is closed and comes before it.
        calls = table_of(3, [0b101, 0b010]) + [close(1), following(1), following(2)]
        self.assertEqual(each_answer(calls)[4:], [[0, 5], [0, 2], [0, 5]])

    def test_0_itself_is_not_next_behind_0(self):
        self.assertEqual(each_answer(table_of(1, [0]) + [close(0), following(0)])[3:], [[1, 0], [0, 1]])

    def test_without_things_all_marks_alone_are_closed(self):
        calls = table_of(3, []) + [following(0), following(6), following(7)]
        self.assertEqual(each_answer(calls)[2:], [[0, 7], [0, 7], [-3]])

    def test_none_behind_all_marks(self):
        for amount in (1, 12):
            every = (1 << amount) - 1
            calls = table_of(amount, [every, 0]) + [following(every), following(every - 1)]
            self.assertEqual(each_answer(calls)[4:], [[-3], [0, every]])

    def test_a_wrong_mark_is_looked_at_before_none(self):
        self.assertEqual(last_answer(table_of(3, SMALL) + [following(15)]), [-1])


if __name__ == "__main__":
    unittest.main()
