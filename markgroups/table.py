"""The calls on a table of things and their marks, and what they answer."""

from markgroups.closure import closed_behind, closure_of, things_having

BEGIN = 0
MARKS = 1
THING = 2
CLOSE = 3
HAVING = 4

# How many numbers stand behind a call's own number, by that number.
NUMBERS_HANDED = (0, 1, 1, 1, 1, 1)

OUT_OF_RANGE = -1
FULL = -2
NOT_THERE = -3
NO_TABLE = -4

MOST_MARKS = 20
MOST_THINGS = 64


class Table:
    """The set of all marks, and the set of marks of each thing.

    A table has at least one mark, so where all_marks is 0 there's no table.
    """

    def __init__(self):
        self.all_marks = 0
        self.things = []


def begin(table):
    table.all_marks = 0
    table.things = []
    return [0]


def make_table(table, amount):
    if amount < 1 or amount > MOST_MARKS:
        return [OUT_OF_RANGE]
    table.all_marks = (1 << amount) - 1
    table.things = []
    return [0]


def add_thing(table, marks):
    if len(table.things) == MOST_THINGS:
        return [FULL]
    table.things.append(marks)
    return [len(table.things) - 1]


def close(table, marks):
    closed = closure_of(table.things, table.all_marks, marks)
    return [1 if closed == marks else 0, closed]


def having(table, marks):
    return list(things_having(table.things, marks))


def next_closed(table, marks):
    closed = closed_behind(table.things, table.all_marks, marks)
    if closed is None:
        return [NOT_THERE]
    return [0, closed]


def common_refusal(table, handed_sets):
    """The refusal that every call but begin and marks looks at first; None if it isn't refused."""
    if table.all_marks == 0:
        return NO_TABLE
    for marks in handed_sets:
        if marks > table.all_marks:
            return OUT_OF_RANGE
    return None


def answer_with_table(table, call, marks):
    # What is none of these is next: a number without a row in NUMBERS_HANDED has failed before.
    if call == THING:
        return add_thing(table, marks)
    if call == CLOSE:
        return close(table, marks)
    if call == HAVING:
        return having(table, marks)
    return next_closed(table, marks)


def answer_of(table, call, handed):
    """The numbers that one call answers; a refusal is one number alone."""
    if call == BEGIN:
        return begin(table)
    if call == MARKS:
        return make_table(table, handed[0])
    refusal = common_refusal(table, handed)
    if refusal is not None:
        return [refusal]
    return answer_with_table(table, call, handed[0])


def answers(calls):
    """For each of the calls, in order, how many numbers it answers, and these."""
    table = Table()
    answered = []
    position = 0
    while position < len(calls):
        call = calls[position]
        behind = position + 1 + NUMBERS_HANDED[call]
        answer = answer_of(table, call, calls[position + 1:behind])
        answered.append(len(answer))
        answered.extend(answer)
        position = behind
    return answered
