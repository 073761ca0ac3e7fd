"""markgroups.table.answers: what is handed in, what is given back, what is left alone."""

import contextlib
import io
import json
import pathlib
import re
import unittest

from markgroups.table import answers
from tests.calls import BEGIN, COUNT, above, basis, close, flat, following, follows, having, holds, marks, rule
from tests.calls import table_of, thing


class TheListGivenBack(unittest.TestCase):
    def test_empty(self):
        self.assertEqual(answers([]), [])

    def test_one_number_and_two_each_with_how_many(self):
        calls = [0, 1, 3, 2, 3, 3, 1, 4, 3, 5, 3]
        self.assertEqual(answers(calls), [1, 0, 1, 0, 1, 0, 2, 0, 3, 2, 1, 1, 2, 0, 7])

    def test_count_above_and_basis_with_how_many(self):
        calls = [0, 1, 3, 2, 3, 6, 7, 3, 0, 8, 0]
        self.assertEqual(answers(calls), [1, 0, 1, 0, 1, 0, 1, 2, 2, 1, 7, 3, 1, 0, 3])

    def test_two_sets_each_and_one_number(self):
        calls = [0, 1, 3, 2, 3, 9, 1, 2, 9, 2, 4, 10, 2, 4, 10, 4, 1, 11, 2, 1, 11, 1, 2]
        self.assertEqual(answers(calls), [1, 0, 1, 0, 1, 0, 1, 1, 1, 0, 1, 0, 1, 1, 1, 1, 1, 0])

    def test_the_examples_of_the_readme(self):
        text = (pathlib.Path(__file__).resolve().parent.parent / "README.md").read_text(encoding="utf-8")
        shown = re.findall(r"^answers\((\[.*\])\)\n# (\[.*\])$", text, re.MULTILINE)
        self.assertEqual(len(shown), 2)
        for calls, told in shown:
            self.assertEqual(answers(json.loads(calls)), json.loads(told))

    def test_a_refusal_is_one_number(self):
        calls = [0, 3, 0, 4, 0, 5, 0, 2, 0, 1, 0, 1, 2, 3, 4, 4, 4, 5, 4, 5, 3]
        told = [1, 0] + [1, -4] * 4 + [1, -1, 1, 0] + [1, -1] * 3 + [1, -3]
        self.assertEqual(answers(calls), told)

    def test_a_refusal_of_the_later_calls_is_one_number(self):
        calls = [0, 6, 7, 0, 0, 8, 0, 9, 0, 0, 10, 0, 0, 11, 0, 0, 1, 2]
        told = [1, 0] + [1, -4] * 6 + [1, 0]
        calls += [7, 4, 0, 9, 0, 4, 10, 4, 0, 11, 4, 4, 7, 0, 0, 8, 1]
        told += [1, -1] * 4 + [1, -3] * 2
        self.assertEqual(answers(calls), told)

    def test_a_list_of_whole_numbers_never_true_or_false(self):
        calls = flat(table_of(3, [3, 2]) + [close(2), close(1), having(7), having(2), following(7), following(0)])
        calls += flat([COUNT, above(2, 0), above(0, 0), basis(0), basis(9), rule(2, 4)])
        calls += flat([holds(1, 2), holds(2, 1), follows(2, 4), follows(4, 2)])
        given = answers(calls)
        self.assertIs(type(given), list)
        self.assertEqual([number for number in given if type(number) is not int], [])


class Watched(list):
    """A list that fails where it would be changed."""

    def refuse(self, *args, **named):
        raise AssertionError("what is handed in was changed")

    __setitem__ = __delitem__ = __iadd__ = __imul__ = refuse
    append = extend = insert = pop = remove = clear = sort = reverse = refuse


class WhatIsLeftAlone(unittest.TestCase):
    CALLS = flat(
        table_of(3, [3, 2, 4, 9]) + [close(1), having(2), following(0), COUNT, above(0, 1), basis(0), basis(-1)]
        + [holds(1, 2), rule(1, 2), follows(1, 2), follows(2, 1), marks(0), BEGIN, thing(1)]
    )

    def test_what_is_handed_in_stays_the_same(self):
        handed = list(self.CALLS)
        answers(handed)
        self.assertEqual(handed, self.CALLS)

    def test_what_is_handed_in_is_not_changed_for_a_while(self):
        self.assertEqual(answers(Watched(self.CALLS)), answers(self.CALLS))

    def test_the_same_twice(self):
        handed = list(self.CALLS)
        first = answers(handed)
        kept = list(first)
        self.assertEqual(answers(handed), kept)
        self.assertEqual(first, kept)

    def test_nothing_is_kept_from_one_time_to_the_next(self):
        answers(flat(table_of(3, [3, 2])))
        self.assertEqual(answers([4, 0]), [1, -4])
        self.assertEqual(answers([0, 4, 0]), [1, 0, 1, -4])
        self.assertEqual(answers([0, 1, 3, 4, 0]), [1, 0, 1, 0, 2, 0, 0])

    def test_neither_rules_nor_closed_sets_are_kept_from_one_time_to_the_next(self):
        answers(flat(table_of(3, [3, 2]) + [rule(1, 2), COUNT, basis(0)]))
        self.assertEqual(answers([10, 1, 2, 6, 8, 0]), [1, -4] * 3)
        calls = flat(table_of(3, []) + [follows(1, 2), rule(1, 2), COUNT, basis(0)])
        self.assertEqual(answers(calls), [1, 0, 1, 0, 1, 0, 1, 0, 1, 1, 3, 1, 0, 7])

    def test_what_was_given_back_can_be_changed_without_harm(self):
        first = answers(self.CALLS)
        kept = list(first)
        first.clear()
        self.assertEqual(answers(self.CALLS), kept)

    def test_nothing_is_printed(self):
        printed = io.StringIO()
        with contextlib.redirect_stdout(printed), contextlib.redirect_stderr(printed):
            answers(self.CALLS)
        self.assertEqual(printed.getvalue(), "")

    def test_400_calls(self):
        calls = [0, 1, 12] + [2, 4095] * 64 + [3, 1] * 334
        self.assertEqual(len(answers(calls)), 2 * 66 + 3 * 334)


if __name__ == "__main__":
    unittest.main()
