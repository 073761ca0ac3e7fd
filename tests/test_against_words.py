"""close, having and next beside what the words say, set by set, on many tables."""

import unittest

from tests.calls import close, each_answer, following, having, table_of


def drawn(seed, amount, below):
    """Numbers that look mixed, the same each time."""
    found = []
    for turn in range(amount):
        seed = (seed * 1103515245 + 12345) % 2147483648
        found.append(seed // 65536 % below)
    return found


def members(number):
    return frozenset(bit for bit in range(64) if number >> bit & 1)


def number_of(these):
    return sum(1 << bit for bit in these)


def closure_in_words(amount, things, wanted):
    every = range(amount)
    owners = [thing for thing in things if members(wanted) <= members(thing)]
    return number_of(mark for mark in every if all(mark in members(thing) for thing in owners))


def having_in_words(things, wanted):
    owners = [number for number, thing in enumerate(things) if members(wanted) <= members(thing)]
    return [len(owners), number_of(owners)]


def next_in_words(closed_sets, wanted):
    behind = [closed for closed in closed_sets if closed > wanted]
    return [0, min(behind)] if behind else [-3]


class AgainstTheWords(unittest.TestCase):
    def look_at(self, amount, things):
        every = range(1 << amount)
        closures = [closure_in_words(amount, things, wanted) for wanted in every]
        closed_sets = [wanted for wanted in every if closures[wanted] == wanted]
        for wanted in every:
            calls = table_of(amount, things) + [close(wanted), having(wanted), following(wanted)]
            told = [
                [int(closures[wanted] == wanted), closures[wanted]],
                having_in_words(things, wanted),
                next_in_words(closed_sets, wanted),
            ]
            self.assertEqual(each_answer(calls)[-3:], told, (amount, things, wanted))

    def test_all_tables_of_two_marks_and_up_to_two_things(self):
        self.look_at(2, [])
        for first in range(4):
            self.look_at(2, [first])
            for second in range(4):
                self.look_at(2, [first, second])

    def test_mixed_tables(self):
        for seed in range(40):
            amount = 3 + seed % 4
            self.look_at(amount, drawn(seed, 1 + seed % 9, 1 << amount))

    def test_tables_with_many_marks_each(self):
        for seed in range(10):
            sparse = drawn(seed, 6, 64)
            denser = drawn(seed + 100, 6, 64)
            self.look_at(6, [left | right for left, right in zip(sparse, denser)])


class AsLargeAsItGets(unittest.TestCase):
    def test_closures_in_a_full_table_of_12_marks(self):
        things = drawn(7, 64, 4096)
        wanted_sets = range(0, 4096, 37)
        closures = [closure_in_words(12, things, wanted) for wanted in wanted_sets]
        calls = table_of(12, things) + [close(wanted) for wanted in wanted_sets]
        self.assertEqual([answer[1] for answer in each_answer(calls)[66:]], closures)

    def test_closed_sets_of_12_marks_one_behind_another(self):
        things = drawn(8, 9, 4096)
        every = range(4096)
        closed_sets = [wanted for wanted in every if closure_in_words(12, things, wanted) == wanted]
        self.assertGreater(len(closed_sets), 20)
        found = [closed_sets[0]]
        while found[-1] != 4095:
            answer = each_answer(table_of(12, things) + [following(found[-1])])[-1]
            self.assertEqual(answer[0], 0)
            found.append(answer[1])
        self.assertEqual(found, closed_sets)

    def test_400_calls_of_next(self):
        # Each thing lacks one mark, so every set is closed.
        things = [4095 - (1 << mark) for mark in range(12)]
        calls = table_of(12, things) + [following(wanted) for wanted in range(386)]
        self.assertEqual(len(calls), 400)
        self.assertEqual(each_answer(calls)[14:], [[0, wanted + 1] for wanted in range(386)])


if __name__ == "__main__":
    unittest.main()
