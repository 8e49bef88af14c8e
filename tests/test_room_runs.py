"""Points 16 and 17 of DOC.md: what holds through whatever is done in a room."""

import random
import unittest

from logreplica.errors import NotLeading
from logreplica.rooms import Room
from logreplica.rows import as_new
from room_view import hand_all, led, seen

FAR_MORE = 10 ** 20


def is_beginning(one, two):
    return two[:len(one)] == one


class Watched:
    """A room in which each step is checked against points 11 to 16."""

    def __init__(self, test, count):
        self.test = test
        self.count = count
        self.room = Room(count)
        self.now = seen(self.room, count)
        self.leaders = {}  # term -> the one keeper that has led in it
        self.settled = []  # the longest row of entries that anyone has known to be settled

    def do(self, name, k, *arguments):
        """Do one step, check it, and give what was told; None where it was refused."""
        before = self.now
        refused = name in ("write", "hand", "settle") and not before[k][2]
        told = None
        if refused:
            with self.test.assertRaises(NotLeading):
                getattr(self.room, name)(k, *arguments)
        else:
            told = getattr(self.room, name)(k, *arguments)
        self.now = seen(self.room, self.count)
        if refused:
            self.test.assertEqual(self.now, before)
        else:
            getattr(self, "check_" + name)(before, told, k, *arguments)
        self.check_all(before)
        return told

    def same_but(self, before, *changed):
        for k in range(self.count):
            if k not in changed:
                self.test.assertEqual(self.now[k], before[k])

    def check_stand(self, before, told, k, others):
        term = before[k][0] + 1
        voices = {k}
        for n in range(self.count):
            if n == k:
                self.test.assertEqual(self.now[n], (term, before[n][1], told, before[n][3]))
            elif n in others and before[n][0] < term:
                self.test.assertEqual(self.now[n], (term, before[n][1], False, before[n][3]))
                if as_new(before[k][1], before[n][1]):
                    voices.add(n)
            else:
                self.test.assertEqual(self.now[n], before[n])
        self.test.assertIs(told, 2 * len(voices) > self.count)

    def check_write(self, before, told, k, word):
        term, row, leads, settled = before[k]
        self.test.assertEqual(told, len(row))
        self.test.assertEqual(self.now[k], (term, row + [(term, word)], leads, settled))
        self.same_but(before, k)

    def check_hand(self, before, told, k, other, many):
        term, row, _, settled = before[k]
        if before[other][0] > term:
            self.test.assertIs(told, False)
            self.test.assertEqual(self.now[k], (before[other][0], row, False, settled))
            self.same_but(before, k)
            return
        self.same_but(before, other)
        self.test.assertEqual(self.now[other][0], term)
        if before[other][0] < term:
            self.test.assertIs(self.now[other][2], False)
        if not told:
            self.test.assertIs(told, False)
            self.test.assertEqual(self.now[other][1], before[other][1])
            self.test.assertEqual(self.now[other][3], before[other][3])
        else:
            self.test.assertIs(told, True)
            known = (len(before[other][3]), len(self.now[other][3]))
            self.test.assertLessEqual(known[0], known[1])
            self.test.assertLessEqual(known[1], max(known[0], len(settled)))

    def check_settle(self, before, told, k):
        term, row, leads, settled = before[k]
        self.test.assertGreaterEqual(told, len(settled))
        self.test.assertEqual(self.now[k], (term, row, leads, row[:told]))
        self.same_but(before, k)
        if told > len(settled):
            self.test.assertEqual(row[told - 1][0], term)
            holding = sum(is_beginning(row[:told], one[1]) for one in before)
            self.test.assertGreater(2 * holding, self.count)

    def check_rest(self, before, told, k):
        self.test.assertIsNone(told)
        self.test.assertEqual(self.now[k], (before[k][0], before[k][1], False, []))
        self.same_but(before, k)

    def check_all(self, before):
        """Point 16, sentence by sentence."""
        for k in range(self.count):
            self.test.assertGreaterEqual(self.now[k][0], before[k][0])
            if self.now[k][2]:
                self.test.assertEqual(self.leaders.setdefault(self.now[k][0], k), k)
        for one in self.now:
            for two in self.now:
                self.check_rows(one[1], two[1])
        for _, row, _, settled in self.now:
            self.test.assertTrue(is_beginning(settled, row))
            longer, shorter = self.settled, settled
            if len(longer) < len(shorter):
                longer, shorter = shorter, longer
            self.test.assertTrue(is_beginning(shorter, longer))
            self.settled = longer
        for term, row, leads, _ in self.now:
            if leads and term == max(self.leaders):
                self.test.assertTrue(is_beginning(self.settled, row))

    def check_rows(self, one, two):
        same = [at for at, (a, b) in enumerate(zip(one, two)) if a[0] == b[0]]
        if same:
            self.test.assertEqual(one[:same[-1] + 1], two[:same[-1] + 1])


def step(chance, watched, word):
    """One step by chance (from a fixed seed), most often one of a keeper that leads."""
    everyone = list(range(watched.count))
    leading = [k for k in everyone if watched.now[k][2]]
    k = chance.choice(leading) if leading and chance.random() < 0.9 else chance.choice(everyone)
    kind = chance.random()
    if kind < 0.08 or not leading:
        k = chance.choice(everyone)
        others = [chance.choice(everyone) for _ in range(chance.randint(0, watched.count + 1))]
        watched.do("stand", k, others)
    elif kind < 0.12:
        watched.do("rest", chance.choice(everyone))
    elif kind < 0.35:
        watched.do("write", k, word)
    elif kind < 0.50:
        watched.do("settle", k)
    elif watched.count > 1:
        other = chance.choice([n for n in everyone if n != k])
        watched.do("hand", k, other, chance.choice([0, 1, 1, 2, 3, FAR_MORE]))


def walked(test, count, seed, steps):
    chance = random.Random(f"{count} {seed}")
    watched = Watched(test, count)
    for n in range(steps):
        step(chance, watched, f"{seed}-{n}")
    return watched


def newest(watched):
    """The last keeper whose row is as new as each other one."""
    found = 0
    for k in range(watched.count):
        if as_new(watched.now[k][1], watched.now[found][1]):
            found = k
    return found


class WhateverIsDone(unittest.TestCase):
    """Point 16."""

    def test_runs_by_chance(self):
        settled = 0
        for count in range(1, 10):
            for seed in range(12):
                settled += len(walked(self, count, seed, 250).settled)
        # Runs in which nothing comes to be settled would show nothing.
        self.assertGreater(settled, 500)

    def test_two_rivals_that_lead_by_turns_with_unheard_entries(self):
        watched = Watched(self, 5)
        sides = ((0, [1, 2]), (4, [3, 2]))
        for turn in range(1, 9):
            k, others = sides[turn % 2]
            while not watched.now[k][2] or watched.now[k][0] < turn:
                watched.do("stand", k, others)
            for n in range(3):
                watched.do("write", k, f"{turn}-{n}")
            watched.do("settle", k)
        self.assertEqual(watched.settled, [])
        self.assertEqual([len(one[1]) for one in watched.now], [12, 0, 0, 0, 12])
        k = newest(watched)
        lost = watched.now[4 - k][1]
        others = [n for n in range(5) if n != k]
        while not watched.do("stand", k, others):
            pass
        place = watched.do("write", k, "last")
        for other in others:
            while not watched.do("hand", k, other, FAR_MORE):
                pass
        self.assertEqual(watched.do("settle", k), place + 1)
        self.assertNotEqual(watched.now[4 - k][1][:12], lost)
        self.assertEqual([one[1] for one in watched.now], [watched.now[k][1]] * 5)

    def earlier_entry_held_by_most(self):
        """0 leads in term 3 and all but 3 and 4 hold its entry of term 1; 4 has one of term 2."""
        watched = Watched(self, 5)
        self.assertIs(watched.do("stand", 0, [1, 2]), True)
        watched.do("write", 0, "a")
        self.assertIs(watched.do("hand", 0, 1, 1), True)
        self.assertIs(watched.do("stand", 4, [2, 3]), False)
        self.assertIs(watched.do("stand", 4, [2, 3]), True)
        watched.do("write", 4, "x")
        self.assertIs(watched.do("stand", 0, [1, 2]), False)
        self.assertIs(watched.do("stand", 0, [1, 2]), True)
        for other in (1, 2):
            while not watched.do("hand", 0, other, 1):
                pass
        return watched

    def test_an_entry_of_an_earlier_term_held_by_most_may_still_go(self):
        watched = self.earlier_entry_held_by_most()
        self.assertEqual(watched.do("settle", 0), 0)
        while not watched.do("stand", 4, [1, 2, 3]):
            pass
        for other in (1, 2):
            while not watched.do("hand", 4, other, 1):
                pass
        self.assertEqual([one[1] for one in watched.now][1:3], [[(2, "x")]] * 2)

    def test_with_a_later_entry_of_the_own_term_it_is_settled_for_good(self):
        watched = self.earlier_entry_held_by_most()
        watched.do("write", 0, "b")
        for other in (1, 2):
            self.assertIs(watched.do("hand", 0, other, 1), True)
        self.assertEqual(watched.do("settle", 0), 2)
        for _ in range(4):
            self.assertIs(watched.do("stand", 4, [1, 2, 3]), False)
        watched.do("rest", 0)
        while not watched.do("stand", 1, [2, 3, 4]):
            pass
        self.assertEqual([entry[1] for entry in watched.now[1][1]], ["a", "b"])

    def test_one_that_was_left_behind_does_not_lead_over_settled_entries(self):
        watched = Watched(self, 3)
        watched.do("stand", 0, [1, 2])
        watched.do("write", 0, "a")
        watched.do("hand", 0, 1, 1)
        self.assertEqual(watched.do("settle", 0), 1)
        for _ in range(5):
            self.assertIs(watched.do("stand", 2, [0, 1]), False)
        while not watched.do("stand", 1, [2]):
            pass
        self.assertEqual(watched.now[1][1], [(1, "a")])


class AWholeRun(unittest.TestCase):
    """Point 17."""

    def brought_together(self, watched, k):
        """Do what point 17 tells, by keeper k, and check what it promises."""
        everyone = list(range(watched.count))
        others = [n for n in everyone if n != k]
        top = max(one[0] for one in watched.now)
        while watched.now[k][0] <= top:
            led_then = watched.do("stand", k, everyone)
        self.assertIs(led_then, True)
        self.assertIs(watched.now[k][2], True)
        watched.do("write", k, "last")
        row = watched.now[k][1]
        for other in others:
            for _ in row:
                watched.do("hand", k, other, len(row))
        self.assertEqual([one[1] for one in watched.now], [row] * watched.count)
        self.assertEqual(watched.do("settle", k), len(row))
        for other in others:
            self.assertIs(watched.do("hand", k, other, len(row)), True)
        self.assertEqual([one[3] for one in watched.now], [row] * watched.count)

    def test_from_a_new_room(self):
        for count in range(1, 10):
            for k in range(count):
                self.brought_together(Watched(self, count), k)

    def test_behind_runs_by_chance(self):
        for count in range(1, 10):
            for seed in range(12):
                watched = walked(self, count, seed, 120)
                for _ in range(2):
                    self.brought_together(watched, newest(watched))
                    for n in range(40):
                        step(random.Random(f"{seed} {n}"), watched, f"then-{n}")

    def test_from_rows_that_agree_nowhere(self):
        for k in (0, 1, 2):
            watched = Watched(self, 5)
            for rival in ((k + 1) % 3, (k + 2) % 3, k):
                while not watched.do("stand", rival, [3, 4]):
                    pass
                for n in range(4):
                    watched.do("write", rival, f"{rival}{n}")
            self.assertEqual([len(one[1]) for one in watched.now], [4, 4, 4, 0, 0])
            self.assertEqual(sum(one[2] for one in watched.now), 3)
            self.brought_together(watched, k)

    def test_a_long_row(self):
        room = led(3, [str(n) for n in range(300)])
        self.assertIs(room.stand(0, [1, 2]), True)
        room.write(0, "last")
        for other in (1, 2):
            told = [room.hand(0, other, 301) for _ in range(301)]
            self.assertEqual(told, [False] * 300 + [True])
        self.assertEqual(room.settle(0), 301)
        hand_all(room, 0, [1, 2])
        self.assertEqual(seen(room, 3)[1], (2, room.row_of(0), False, room.row_of(0)))
        self.assertEqual(room.settled_of(2), room.row_of(0))


if __name__ == "__main__":
    unittest.main()
