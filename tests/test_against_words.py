"""All calls beside what the words say, taken straight from them over all sets of marks, one by one."""

import functools
import time
import unittest

from tests.calls import COUNT, EACH_LACKS_ONE
from tests.calls import above, basis, close, each_answer, following, follows, having, holds, rule, table_of


def drawn(seed, amount, below):
    """Numbers that look mixed, the same each time."""
    found = []
    for turn in range(amount):
        seed = (seed * 1103515245 + 12345) % 2147483648
        found.append(seed // 65536 % below)
    return found


def drawn_denser(seed, amount, below):
    return [left | right for left, right in zip(drawn(seed, amount, below), drawn(seed + 100, amount, below))]


@functools.lru_cache(maxsize=None)
def members(number):
    return frozenset(bit for bit in range(64) if number >> bit & 1)


def number_of(these):
    return sum(1 << bit for bit in these)


def closure_in_words(amount, things, wanted):
    every = range(amount)
    owners = [thing for thing in things if members(wanted) <= members(thing)]
    return number_of(mark for mark in every if all(mark in members(thing) for thing in owners))


def having_in_words(things, wanted):
    owners = [number for number, thing in enumerate(things) if members(wanted) <= members(thing)]
    return [len(owners), number_of(owners)]


@functools.lru_cache(maxsize=None)
def closed_in_words(amount, things):
    return [wanted for wanted in range(1 << amount) if closure_in_words(amount, things, wanted) == wanted]


def next_in_words(closed_sets, wanted):
    behind = [closed for closed in closed_sets if closed > wanted]
    return [0, min(behind)] if behind else [-3]


def above_in_words(closed_sets, wanted, k):
    over = [closed for closed in closed_sets if members(wanted) < members(closed)]
    right_above = [closed for closed in over if not any(members(third) < members(closed) for third in over)]
    if wanted not in closed_sets or k not in range(len(right_above)):
        return [-3]
    return [len(right_above), right_above[k]]


@functools.lru_cache(maxsize=None)
def rules_in_words(amount, things):
    closed_sets = frozenset(closed_in_words(amount, things))
    rules = []
    for wanted in range(1 << amount):
        if wanted not in closed_sets and all(keeps(wanted, told) for told in rules):
            rules.append((wanted, closure_in_words(amount, things, wanted)))
    return rules


def basis_in_words(amount, things, k):
    rules = rules_in_words(amount, things)
    return [len(rules), *rules[k]] if k in range(len(rules)) else [-3]


def keeps(owned, told):
    return not members(told[0]) <= members(owned) or members(told[1]) <= members(owned)


def holds_in_words(things, told):
    return [int(all(keeps(thing, told) for thing in things))]


def follows_in_words(amount, rules, told):
    keeping = [owned for owned in range(1 << amount) if all(keeps(owned, kept) for kept in rules)]
    return [int(all(keeps(owned, told) for owned in keeping))]


class InWords:
    """A table whose every answer is taken from the words."""

    SETS = (0, 0, 1, 1, 1, 1, 0, 1, 0, 2, 2, 2)

    def __init__(self):
        self.begin(None)

    def begin(self, amount):
        self.amount = amount
        self.things = ()
        self.rules = []
        return [0]

    def answer(self, call):
        number, handed = call[0], call[1:]
        if number == 0:
            return self.begin(None)
        if number == 1:
            return self.begin(handed[0]) if handed[0] in range(1, 21) else [-1]
        if self.amount is None:
            return [-4]
        if any(not members(told) <= frozenset(range(self.amount)) for told in handed[:self.SETS[number]]):
            return [-1]
        return self.answer_to(number, handed)

    def keep(self, told):
        if len(self.rules) == 256:
            return [-2]
        self.rules.append(told)
        return [len(self.rules) - 1]

    def add(self, owned):
        if len(self.things) == 64:
            return [-2]
        self.things += (owned,)
        return [len(self.things) - 1]

    def answer_to(self, number, handed):
        closed_sets = closed_in_words(self.amount, self.things)
        return {
            2: lambda: self.add(*handed),
            3: lambda: [int(handed[0] in closed_sets), closure_in_words(self.amount, self.things, *handed)],
            4: lambda: having_in_words(self.things, *handed),
            5: lambda: next_in_words(closed_sets, *handed),
            6: lambda: [len(closed_sets)],
            7: lambda: above_in_words(closed_sets, *handed),
            8: lambda: basis_in_words(self.amount, self.things, *handed),
            9: lambda: holds_in_words(self.things, handed),
            10: lambda: self.keep(handed),
            11: lambda: follows_in_words(self.amount, self.rules, handed),
        }[number]()


def in_words(calls):
    table = InWords()
    return [table.answer(call) for call in calls]


class WholeTables(unittest.TestCase):
    def look_at(self, amount, things):
        every = range(1 << amount)
        asked = [COUNT] + [basis(k) for k in range(-1, (1 << amount) + 1)]
        for wanted in every:
            asked += [close(wanted), having(wanted), following(wanted)]
            asked += [above(wanted, k) for k in range(-1, amount + 1)]
        for start in range(0, len(asked), 300):
            calls = table_of(amount, things) + asked[start:start + 300]
            self.assertEqual(each_answer(calls), in_words(calls), (amount, things))

    def test_all_tables_of_two_marks_and_up_to_two_things(self):
        self.look_at(2, [])
        for first in range(4):
            self.look_at(2, [first])
            for second in range(4):
                self.look_at(2, [first, second])

    def test_all_tables_of_three_marks_by_which_things_are_there(self):
        for there in range(256):
            self.look_at(3, sorted(members(there)))

    def test_mixed_tables(self):
        for seed in range(40):
            amount = 3 + seed % 4
            self.look_at(amount, drawn(seed, 1 + seed % 9, 1 << amount))

    def test_tables_with_many_marks_each(self):
        for seed in range(10):
            self.look_at(6, drawn_denser(seed, 6, 64))

    def test_all_rules_of_three_marks(self):
        pairs = [(first, second) for first in range(8) for second in range(8)]
        for seed in range(30):
            calls = table_of(3, drawn(seed, seed % 6, 8))
            for first, second in zip(drawn(seed + 7, seed % 4, 8), drawn(seed + 8, seed % 4, 8)):
                calls += [rule(first, second)]
            calls += [holds(first, second) for first, second in pairs]
            calls += [follows(first, second) for first, second in pairs]
            self.assertEqual(each_answer(calls), in_words(calls), calls)


KINDS = (0, 1) + (2,) * 20 + (3, 4, 5, 6, 7, 7, 8, 8, 9, 10, 11, 11) * 6
AMOUNTS = (0, 1, 2, 3, 3, 4, 4, 4, 5, 5, 5, 21, -1)


def mixed_list(seed, length):
    """Calls in any order; sets that go one number too far at times, and k on both sides of what is there."""
    numbers = iter(drawn(seed, 8 * length, 30000))

    def pick(below):
        return next(numbers) % below

    calls, there, below, things = [[0]], False, 8, [0]
    while len(calls) < length:
        kind = KINDS[pick(len(KINDS))] if there or pick(2) else 1
        if kind == 1:
            amount = AMOUNTS[pick(len(AMOUNTS))]
            calls.append([1, amount])
            if amount in range(1, 21):
                there, below, things = True, 1 << amount, [0]
        elif kind == 7:
            # What two things have in common is closed; of other sets few are.
            common = things[pick(len(things))] & things[pick(len(things))]
            calls.append([7, common if pick(4) else pick(below + 1), pick(5) - 1])
        elif kind == 8:
            calls.append([8, pick(6) - 1])
        else:
            calls.append([kind] + [pick(below + 1) for handed in range(InWords.SETS[kind])])
            there = there and kind != 0
            things += calls[-1][1:] if kind == 2 else []
    return calls


class MixedLists(unittest.TestCase):
    def test_many_mixed_lists(self):
        seen = set()
        for seed in range(200):
            calls = mixed_list(seed, 80)
            told = in_words(calls)
            self.assertEqual(each_answer(calls), told, calls)
            seen |= {(call[0], min(answer[0], 0)) for call, answer in zip(calls, told)}
        # Each call was answered, and refused in each way that such small lists can bring about.
        self.assertEqual([call for call in range(12) if (call, 0) not in seen], [])
        self.assertEqual([call for call in range(2, 12) if (call, -4) not in seen], [])
        self.assertEqual([call for call in (1, 2, 3, 4, 5, 7, 9, 10, 11) if (call, -1) not in seen], [])
        self.assertEqual([call for call in (5, 7, 8) if (call, -3) not in seen], [])

    def test_mixed_lists_of_400_calls(self):
        for seed in range(1000, 1006):
            calls = mixed_list(seed, 400)
            self.assertEqual(each_answer(calls), in_words(calls), calls)


class AsLargeAsItGets(unittest.TestCase):
    SPARSE = drawn(7, 64, 4096)
    DENSE = drawn_denser(7, 64, 4096)

    def look_at(self, things, asked):
        calls = table_of(12, things) + asked
        self.assertLessEqual(len(calls), 400)
        table = InWords()
        table.begin(12)
        table.things = tuple(things)
        told = [table.answer(call) for call in asked]
        self.assertEqual(each_answer(calls)[2 + len(things):], told)

    def test_closures_in_a_full_table_of_12_marks(self):
        self.look_at(self.SPARSE, [close(wanted) for wanted in range(0, 4096, 37)])

    def test_count_and_basis_of_12_marks(self):
        for things in ([], self.SPARSE[:1], self.SPARSE[:9], self.SPARSE, self.DENSE):
            amount = len(rules_in_words(12, tuple(things)))
            for start in range(-1, amount + 1, 300):
                self.look_at(things, [COUNT] + [basis(k) for k in range(start, min(start + 300, amount + 1))])

    def test_above_with_12_marks(self):
        for things in (self.SPARSE, self.DENSE):
            closed_sets = closed_in_words(12, tuple(things))
            for wanted in closed_sets[:3] + closed_sets[3::len(closed_sets) // 9]:
                self.look_at(things, [above(wanted, k) for k in range(-1, 13)])

    def test_closed_sets_of_12_marks_one_behind_another(self):
        things = drawn(8, 9, 4096)
        closed_sets = closed_in_words(12, tuple(things))
        self.assertGreater(len(closed_sets), 20)
        found = [closed_sets[0]]
        while found[-1] != 4095:
            answer = each_answer(table_of(12, things) + [following(found[-1])])[-1]
            self.assertEqual(answer[0], 0)
            found.append(answer[1])
        self.assertEqual(found, closed_sets)

    def test_400_calls_of_next(self):
        calls = table_of(12, EACH_LACKS_ONE) + [following(wanted) for wanted in range(386)]
        self.assertEqual(len(calls), 400)
        self.assertEqual(each_answer(calls)[14:], [[0, wanted + 1] for wanted in range(386)])


class Time(unittest.TestCase):
    """Lists of 400 calls with 12 marks and 64 things; each takes about two seconds."""

    MOST_SECONDS = 60
    THINGS = drawn_denser(5, 64, 4096)

    def assert_soon(self, calls):
        self.assertEqual(len(calls), 400)
        start = time.process_time()
        answered = each_answer(calls)
        self.assertLess(time.process_time() - start, self.MOST_SECONDS)
        return answered

    def test_one_call_again_and_again(self):
        table = table_of(12, self.THINGS)
        for call in (COUNT, basis(0), basis(99), above(0, 0), follows(1, 4095)):
            answered = self.assert_soon(table + [call] * 334)
            self.assertEqual(answered[66:], [answered[66]] * 334)

    def test_all_in_turn(self):
        turns = [[COUNT, basis(k), above(0, k % 12), rule(1 << k % 12, 2 << k % 11), follows(1 << k % 12, 4095)]
                 for k in range(67)]
        answered = self.assert_soon((table_of(12, self.THINGS) + sum(turns, []))[:400])
        self.assertEqual(answered[66::5], [answered[66]] * 67)

    def test_a_thing_ahead_of_each(self):
        for call in (COUNT, basis(0), above(4095, 0)):
            calls = table_of(12, [])
            while len(calls) < 400:
                owned = self.THINGS[len(calls) // 2 % 64]
                calls += [[1, 12], call] if len(calls) % 130 == 0 else [[2, owned], call]
            self.assert_soon(calls)

    def test_256_rules_told_backwards(self):
        rules = [rule(1 << mark % 11, 2 << mark % 11) for mark in range(256)][::-1]
        answered = self.assert_soon(table_of(12, []) + rules + [follows(1, 4095)] * 142)
        self.assertEqual(answered[258:], [[1]] * 142)


if __name__ == "__main__":
    unittest.main()
