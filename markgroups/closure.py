"""Sets of marks as numbers (bit i for mark i), and their closures in a table.

A table is given here by its things, a list with the set of marks of each, and by the set of all its marks.
"""


def has_all(owned, marks):
    return (owned & marks) == marks


def closure_of(things, all_marks, marks):
    # From all marks on, because that is the closure of a set that no thing has.
    common = all_marks
    for owned in things:
        if has_all(owned, marks):
            common = common & owned
    return common


def things_having(things, marks):
    """How many things have all of the marks, and these, bit i for thing i."""
    amount = 0
    having = 0
    bit = 1
    for owned in things:
        if has_all(owned, marks):
            amount += 1
            having = having | bit
        bit = bit * 2
    return (amount, having)


def closed_behind(things, all_marks, marks):
    """The smallest closed set that is a greater number than marks, which need not be closed; None if there's none.

    A greater number has one highest mark more, and above it the same marks. All closed sets with these have their
    closure within them, so it's the smallest of them, if it brings no further mark above. The lower the mark that
    is more, the smaller the number: so the lowest marks are tried first.
    """
    bit = 1
    while bit <= all_marks:
        if not has_all(marks, bit):
            wanted = marks // bit + 1
            closed = closure_of(things, all_marks, wanted * bit)
            if closed // bit == wanted:
                return closed
        bit = bit * 2
    return None


def all_closures(things, all_marks):
    """The closure of each set of marks, a list by that set.

    A thing that has all of a set has just that set, or all of a set with one mark more. So a set's closure is what
    the closures of all sets with one mark more have in common, and the set itself if a thing has just that.
    """
    closures = [all_marks] * (all_marks + 1)
    for owned in things:
        closures[owned] = owned
    for marks in range(all_marks - 1, -1, -1):
        common = closures[marks]
        bit = 1
        while bit <= all_marks:
            if not has_all(marks, bit):
                common = common & closures[marks + bit]
            bit = bit * 2
        closures[marks] = common
    return closures


def closures_with_one_more(things, all_marks, marks):
    found = []
    bit = 1
    while bit <= all_marks:
        if not has_all(marks, bit):
            found.append(closure_of(things, all_marks, marks + bit))
        bit = bit * 2
    return found


def right_above(things, all_marks, marks):
    """The closed sets right above marks, which is closed, in order.

    Each of them is the closure of marks with any one further mark of its own. Where a third closed set lies between,
    so does one that is right above; as a number it's smaller, so it has been found before.
    """
    found = []
    for closed in sorted(closures_with_one_more(things, all_marks, marks)):
        if not any([has_all(closed, lower) for lower in found]):
            found.append(closed)
    return found
