"""What the tests share: calls by name, an answer list taken apart again, tables and the ends of ranges."""

from markgroups.table import answers

LEAST = -2147483648
MOST = 2147483647
MOST_SET = 4294967295

# Three marks; who has mark 0 has mark 1 too, and mark 2 is had alone.
# Closed: 0, 2 (mark 1), 3, 4 and 7.
SMALL = [0b011, 0b010, 0b100]
# Twelve marks; each thing lacks one of them, so every set is closed.
EACH_LACKS_ONE = [4095 - (1 << mark) for mark in range(12)]

BEGIN = [0]
COUNT = [6]


def marks(amount):
    return [1, amount]


def thing(owned):
    return [2, owned]


def close(wanted):
    return [3, wanted]


def having(wanted):
    return [4, wanted]


def following(wanted):
    return [5, wanted]


def above(wanted, k):
    return [7, wanted, k]


def basis(k):
    return [8, k]


def holds(first, second):
    return [9, first, second]


def rule(first, second):
    return [10, first, second]


def follows(first, second):
    return [11, first, second]


def flat(calls):
    return [number for call in calls for number in call]


def taken_apart(answered):
    found = []
    position = 0
    while position < len(answered):
        behind = position + 1 + answered[position]
        if behind > len(answered):
            raise AssertionError(f"answer at {position} runs over the end")
        found.append(answered[position + 1:behind])
        position = behind
    return found


def each_answer(calls):
    return taken_apart(answers(flat(calls)))


def last_answer(calls):
    return each_answer(calls)[-1]


def table_of(amount, things):
    return [BEGIN, marks(amount)] + [thing(owned) for owned in things]
