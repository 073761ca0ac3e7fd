"""markgroups.table.answers: what is handed in, what is given back, what is left alone."""

import contextlib
import io
import unittest

from markgroups.table import answers
from tests.calls import BEGIN, close, flat, following, having, marks, table_of, thing


class TheListGivenBack(unittest.TestCase):
    def test_empty(self):
        self.assertEqual(answers([]), [])

    def test_one_number_and_two_each_with_how_many(self):
        calls = [0, 1, 3, 2, 3, 3, 1, 4, 3, 5, 3]
        self.assertEqual(answers(calls), [1, 0, 1, 0, 1, 0, 2, 0, 3, 2, 1, 1, 2, 0, 7])

    def test_the_example_of_the_readme(self):
        calls = [0, 1, 3, 2, 3, 2, 2, 3, 1, 4, 2, 5, 0]
        self.assertEqual(answers(calls), [1, 0, 1, 0, 1, 0, 1, 1, 2, 0, 3, 2, 2, 3, 2, 0, 2])

    def test_a_refusal_is_one_number(self):
        calls = [0, 3, 0, 4, 0, 5, 0, 2, 0, 1, 0, 1, 2, 3, 4, 4, 4, 5, 4, 5, 3]
        told = [1, 0] + [1, -4] * 4 + [1, -1, 1, 0] + [1, -1] * 3 + [1, -3]
        self.assertEqual(answers(calls), told)

    def test_a_list_of_whole_numbers_never_true_or_false(self):
        calls = flat(table_of(3, [3, 2]) + [close(2), close(1), having(7), having(2), following(7), following(0)])
        given = answers(calls)
        self.assertIs(type(given), list)
        self.assertEqual([number for number in given if type(number) is not int], [])


class Watched(list):
    """A list that fails where it would be changed."""

    def refuse(self, *args, **named):
        raise AssertionError("what is handed in was changed")

    __setitem__ = __delitem__ = __iadd__ = __imul__ = refuse
    append = extend = insert = pop = remove = clear = sort = reverse = refuse


class WhatIsLeftAlone(unittest.TestCase):
    CALLS = flat(table_of(3, [3, 2, 4, 9]) + [close(1), having(2), following(0), marks(0), BEGIN, thing(1)])

    def test_what_is_handed_in_stays_the_same(self):
        handed = list(self.CALLS)
        answers(handed)
        self.assertEqual(handed, self.CALLS)

    def test_what_is_handed_in_is_not_changed_for_a_while(self):
        self.assertEqual(answers(Watched(self.CALLS)), answers(self.CALLS))

    def test_the_same_twice(self):
        handed = list(self.CALLS)
        first = answers(handed)
        kept = list(first)
        self.assertEqual(answers(handed), kept)
        self.assertEqual(first, kept)

    def test_nothing_is_kept_from_one_time_to_the_next(self):
        answers(flat(table_of(3, [3, 2])))
        self.assertEqual(answers([4, 0]), [1, -4])
        self.assertEqual(answers([0, 4, 0]), [1, 0, 1, -4])
        self.assertEqual(answers([0, 1, 3, 4, 0]), [1, 0, 1, 0, 2, 0, 0])

    def test_what_was_given_back_can_be_changed_without_harm(self):
        first = answers(self.CALLS)
        kept = list(first)
        first.clear()
        self.assertEqual(answers(self.CALLS), kept)

    def test_nothing_is_printed(self):
        printed = io.StringIO()
        with contextlib.redirect_stdout(printed), contextlib.redirect_stderr(printed):
            answers(self.CALLS)
        self.assertEqual(printed.getvalue(), "")

    def test_400_calls(self):
        calls = [0, 1, 12] + [2, 4095] * 64 + [3, 1] * 334
        self.assertEqual(len(answers(calls)), 2 * 66 + 3 * 334)


if __name__ == "__main__":
    unittest.main()
