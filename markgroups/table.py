"""The calls on a table of things and their marks, and what they answer."""

from markgroups.closure import all_closures, closed_behind, closure_of, has_all, right_above, things_having
from markgroups.rules import basis_of, led_to

BEGIN = 0
MARKS = 1
THING = 2
CLOSE = 3
HAVING = 4
NEXT = 5
COUNT = 6
ABOVE = 7
BASIS = 8
HOLDS = 9
RULE = 10

# How many numbers stand behind a call's own number, by that number; and how many of these, the first, are sets.
NUMBERS_HANDED = (0, 1, 1, 1, 1, 1, 0, 2, 1, 2, 2, 2)
SETS_HANDED = (0, 0, 1, 1, 1, 1, 0, 1, 0, 2, 2, 2)

OUT_OF_RANGE = -1
FULL = -2
NOT_THERE = -3
NO_TABLE = -4

MOST_MARKS = 20
MOST_THINGS = 64
MOST_RULES = 256


class Table:
    """The set of all marks, the set of marks of each thing, and the kept rules.

    A table has at least one mark, so where all_marks is 0 there's no table.
    closures and basis are None till they are asked for: each takes a walk over all sets of marks, which is not made
    again while the things stay the same.
    """

    def __init__(self):
        self.all_marks = 0
        self.things = []
        self.rules = []
        self.closures = None
        self.basis = None


def make_new(table, all_marks):
    table.all_marks = all_marks
    table.things = []
    table.rules = []
    table.closures = None
    table.basis = None


def begin(table):
    make_new(table, 0)
    return [0]


def make_table(table, amount):
    if amount < 1 or amount > MOST_MARKS:
        return [OUT_OF_RANGE]
    make_new(table, (1 << amount) - 1)
    return [0]


def add_thing(table, marks):
    if len(table.things) == MOST_THINGS:
        return [FULL]
    table.things.append(marks)
    table.closures = None
    table.basis = None
    return [len(table.things) - 1]


def close(table, marks):
    closed = closure_of(table.things, table.all_marks, marks)
    return [1 if closed == marks else 0, closed]


def having(table, marks):
    return list(things_having(table.things, marks))


def next_closed(table, marks):
    closed = closed_behind(table.things, table.all_marks, marks)
    if closed is None:
        return [NOT_THERE]
    return [0, closed]


def closures_in(table):
    if table.closures is None:
        table.closures = all_closures(table.things, table.all_marks)
    return table.closures


def basis_in(table):
    if table.basis is None:
        table.basis = basis_of(closures_in(table))
    return table.basis


def count_closed(table):
    closures = closures_in(table)
    return [len([marks for marks in range(len(closures)) if closures[marks] == marks])]


def is_there(rows, k):
    return 0 <= k and k < len(rows)


def tell_above(table, marks, k):
    if closure_of(table.things, table.all_marks, marks) != marks:
        return [NOT_THERE]
    found = right_above(table.things, table.all_marks, marks)
    if not is_there(found, k):
        return [NOT_THERE]
    return [len(found), found[k]]


def tell_basis(table, k):
    rules = basis_in(table)
    if not is_there(rules, k):
        return [NOT_THERE]
    return [len(rules), rules[k][0], rules[k][1]]


def holds(table, first, second):
    # What each thing with the first set has is the first set's closure.
    closed = closure_of(table.things, table.all_marks, first)
    return [1 if has_all(closed, second) else 0]


def keep_rule(table, first, second):
    if len(table.rules) == MOST_RULES:
        return [FULL]
    table.rules.append((first, second))
    return [len(table.rules) - 1]


def follows(table, first, second):
    # Each set with the first that keeps to the rules has all that the first leads to, and that itself is one of them.
    return [1 if has_all(led_to(table.rules, first), second) else 0]


def common_refusal(table, handed_sets):
    """The refusal that every call but begin and marks looks at first; None if it isn't refused."""
    if table.all_marks == 0:
        return NO_TABLE
    for marks in handed_sets:
        if marks > table.all_marks:
            return OUT_OF_RANGE
    return None


def answer_with_table(table, call, handed):
    if call == THING:
        return add_thing(table, handed[0])
    if call == CLOSE:
        return close(table, handed[0])
    if call == HAVING:
        return having(table, handed[0])
    if call == NEXT:
        return next_closed(table, handed[0])
    if call == COUNT:
        return count_closed(table)
    if call == ABOVE:
        return tell_above(table, handed[0], handed[1])
    if call == BASIS:
        return tell_basis(table, handed[0])
    if call == HOLDS:
        return holds(table, handed[0], handed[1])
    if call == RULE:
        return keep_rule(table, handed[0], handed[1])
    # What is none of these is follows: a number without a row in NUMBERS_HANDED has failed before.
    return follows(table, handed[0], handed[1])


def answer_of(table, call, handed):
    """The numbers that one call answers; a refusal is one number alone."""
    if call == BEGIN:
        return begin(table)
    if call == MARKS:
        return make_table(table, handed[0])
    refusal = common_refusal(table, handed[:SETS_HANDED[call]])
    if refusal is not None:
        return [refusal]
    return answer_with_table(table, call, handed)


def answers(calls):
    """For each of the calls, in order, how many numbers it answers, and these."""
    table = Table()
    answered = []
    position = 0
    while position < len(calls):
        call = calls[position]
        behind = position + 1 + NUMBERS_HANDED[call]
        answer = answer_of(table, call, calls[position + 1:behind])
        answered.append(len(answer))
        answered.extend(answer)
        position = behind
    return answered
