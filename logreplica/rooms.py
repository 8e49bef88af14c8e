"""Rooms: some keepers, numbered from 0 on, and what is done among them."""

from logreplica.errors import NoKeeper, NoRoom, NotLeading
from logreplica.keepers import Keeper
from logreplica.rows import agrees, filled, last_term, settled_by

MOST = 9


class Room:
    """A room of 1 to 9 keepers, each with an empty row at first."""

    def __init__(self, count):
        # For Python True is an int; here a truth is no whole number.
        if isinstance(count, bool) or not isinstance(count, int):
            raise NoRoom("the count is no whole number")
        if count < 1 or count > MOST:
            raise NoRoom("a room has 1 to 9 keepers")
        self.keepers = [Keeper([]) for k in range(count)]
        # What each keeper has for each one while it leads: the place from which it
        # hands on next, and how many entries it knows that one to hold.
        self.places = [[] for k in range(count)]
        self.held = [[] for k in range(count)]

    def stand(self, k, others):
        """Let keeper k stand and ask the others for their voices; whether it leads."""
        keeper = self.keeper(k)
        # All are looked up ahead of the first change: a wrong one must change nothing.
        voters = [self.keeper(other) for other in others]
        keeper.hear(keeper.term + 1)
        voices = 1
        for voter in voters:
            if voter.asked(keeper.term, keeper.row):
                voices += 1
        if 2 * voices > len(self.keepers):
            self.begin(k)
        return keeper.leads

    def write(self, k, word):
        """Let keeper k write a word at the end of its row; the entry's place."""
        leader = self.leader(k)
        leader.row.append((leader.term, word))
        return len(leader.row) - 1

    def hand(self, k, other, many):
        """Let keeper k hand on to the other one, so many entries at most; whether it took them."""
        follower = self.other_keeper(k, other)
        leader = self.leader(k)
        if follower.term > leader.term:
            leader.hear(follower.term)
            return False
        follower.hear(leader.term)
        place = self.places[k][other]
        if not agrees(follower.row, place, last_term(leader.row[:place])):
            self.places[k][other] = place - 1
            return False
        # Fewer than none is none; Python would count from the row's end.
        handed = leader.row[place:place + max(many, 0)]
        follower.row = filled(follower.row, place, handed)
        holds = place + len(handed)
        self.places[k][other] = holds
        self.held[k][other] = holds
        follower.settled = max(follower.settled, min(leader.settled, holds))
        return True

    def settle(self, k):
        """Let keeper k settle what more than half hold; how many entries it knows settled."""
        leader = self.leader(k)
        held = list(self.held[k])
        held[k] = len(leader.row)
        leader.settled = max(leader.settled, settled_by(leader.row, leader.term, held))
        return leader.settled

    def rest(self, k):
        """Let keeper k wake anew: it keeps its term and its row alone."""
        keeper = self.keeper(k)
        keeper.leads = False
        keeper.settled = 0

    def term_of(self, k):
        """The term of keeper k."""
        return self.keeper(k).term

    def row_of(self, k):
        """A new list: the row of keeper k."""
        return list(self.keeper(k).row)

    def leading(self, k):
        """Whether keeper k leads."""
        return self.keeper(k).leads

    def settled_of(self, k):
        """A new list: the entries that keeper k knows to be settled."""
        keeper = self.keeper(k)
        return keeper.row[:keeper.settled]

    def keeper(self, k):
        """The keeper of the number k, if there is one."""
        if k not in range(len(self.keepers)):
            # The message leaves the number out: Python does not write out every number.
            raise NoKeeper("no keeper of the room has this number")
        return self.keepers[k]

    def other_keeper(self, k, other):
        """The keeper of the number `other`, if both are there and it is another one than k."""
        self.keeper(k)
        found = self.keeper(other)
        if other == k:
            raise NoKeeper("a keeper hands on to another one, not to itself")
        return found

    def leader(self, k):
        """The keeper of the number k, if there is one and it leads."""
        found = self.keeper(k)
        if not found.leads:
            raise NotLeading("the keeper does not lead")
        return found

    def begin(self, k):
        """Let keeper k lead from here on, knowing of none to hold anything."""
        keeper = self.keepers[k]
        keeper.leads = True
        self.places[k] = [len(keeper.row)] * len(self.keepers)
        self.held[k] = [0] * len(self.keepers)
