"""Keepers: each has a term and a row of its own, and leads or does not."""

from logreplica.rows import as_new


class Keeper:
    """One keeper: its term, its row, whether it leads, and how many entries it knows settled."""

    def __init__(self, row):
        self.term = 0
        # A copy, because no list that is handed in may be kept.
        self.row = list(row)
        self.leads = False
        self.settled = 0

    def hear(self, term):
        """Take a greater term than the own one, and lead no more; else do nothing."""
        if term > self.term:
            self.term = term
            self.leads = False

    def asked(self, term, row):
        """Whether it gives its voice in the term to the one that has the row."""
        if term <= self.term:
            return False
        self.hear(term)
        return as_new(row, self.row)
