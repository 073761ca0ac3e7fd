"""Rules, each a tuple of two sets of marks: who has all of the first has all of the second."""

from markgroups.closure import has_all


def owed_within(owed, marks):
    """What all sets with one mark less than marks owe, together."""
    together = 0
    bit = 1
    while bit <= marks:
        if has_all(marks, bit):
            together = together | owed[marks - bit]
        bit = bit * 2
    return together


def basis_of(closures):
    """The rules of the basis, in order, of a table with these closures, a list by set.

    A set owes the marks of the closures of all sets of the basis that lie in it, itself among them. What lies in it
    and isn't itself lies in one with one mark less: so the basis needn't be walked for each set.
    """
    rules = []
    owed = []
    for marks in range(len(closures)):
        closed = closures[marks]
        together = owed_within(owed, marks)
        if closed != marks and has_all(marks, together):
            rules.append((marks, closed))
            together = closed
        owed.append(together)
    return rules


def led_to(rules, marks):
    """The smallest set that has all of the marks and keeps to all of the rules."""
    reached = marks
    before = None
    # A rule may bring what another one told before it waits for: so all are gone through till none brings more.
    while reached != before:
        before = reached
        for first, second in rules:
            if has_all(reached, first):
                reached = reached | second
    return reached
