"""Calls by name, for the tests, and an answer list taken apart again."""

from markgroups.table import answers

BEGIN = [0]


def marks(amount):
    return [1, amount]


def thing(owned):
    return [2, owned]


def close(wanted):
    return [3, wanted]


def having(wanted):
    return [4, wanted]


def following(wanted):
    return [5, wanted]


def flat(calls):
    return [number for call in calls for number in call]


def taken_apart(answered):
    found = []
    position = 0
    while position < len(answered):
        behind = position + 1 + answered[position]
        if behind > len(answered):
            raise AssertionError(f"answer at {position} runs over the end")
        found.append(answered[position + 1:behind])
        position = behind
    return found


def each_answer(calls):
    return taken_apart(answers(flat(calls)))


def last_answer(calls):
    return each_answer(calls)[-1]


def table_of(amount, things):
    return [BEGIN, marks(amount)] + [thing(owned) for owned in things]
