"""Rows: lists of entries `(term, word)`, whose places count from 0."""

from logreplica.errors import OutOfPlace


def last_term(row):
    """The term of the last entry; 0 of an empty row."""
    if not row:
        return 0
    return row[-1][0]


def as_new(row, other):
    """Whether the row is as new as the other one."""
    own = last_term(row)
    others = last_term(other)
    if own != others:
        return own > others
    return len(row) >= len(other)


def agrees(row, at, term):
    """Whether the row agrees at the place `at` with the term."""
    if at == 0:
        return True
    # A place below 0 has no entry ahead of it; Python would count from the end.
    return 0 < at <= len(row) and row[at - 1][0] == term


def filled(row, at, some):
    """A new list: the row filled from the place `at` with the entries `some`."""
    if at < 0 or at > len(row):
        # The message leaves the place out: Python does not write out every number.
        raise OutOfPlace("the place is outside of the row")
    for k, entry in enumerate(some):
        place = at + k
        if place == len(row) or row[place][0] != entry[0]:
            return row[:place] + some[k:]
    return list(row)


def settled_by(row, term, held):
    """How many entries of the row come to be settled by the term and `held`."""
    for n in range(min(most_held(held), len(row)), 0, -1):
        if row[n - 1][0] == term:
            return n
    return 0


def most_held(held):
    """The greatest number that more than half of the numbers held reach; 0 if none is held."""
    if not held:
        return 0
    # In falling order, the number at len // 2 is reached by len // 2 + 1 of them:
    # the fewest that are more than half.
    return sorted(held, reverse=True)[len(held) // 2]
