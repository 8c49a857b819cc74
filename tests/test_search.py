"""Promise 3: least and ways, held against a plain search over all carryings and the document's words."""

import heapq
import itertools
import random
import unittest

from tests.helper import begins, least, scene, told, ways


class Theatre:
    """A house, its carryings and a search of its own, none of it taken from the program."""

    def __init__(self, heavy, rooms, wings, scenes):
        self.heavy = heavy
        self.rooms = rooms
        self.start = (tuple(wings[0]), tuple(wings[1]))
        self.scenes = [frozenset(pieces) for pieces in scenes]
        self.calls = [begins(heavy, *rooms, *wings)] + [scene(*pieces) for pieces in scenes]
        self.known = {}

    def stands(self, number, wings):
        return self.scenes[number] == set(range(len(self.heavy))) - set(wings[0]) - set(wings[1])

    def carry(self, wings, carrying):
        """The wings behind a carrying and how heavy it is, or None if it can't be done."""
        side = carrying[0] % 2
        rows = [list(row) for row in wings]
        if carrying[0] < 2:
            piece = carrying[1]
            if piece in rows[0] + rows[1] or len(rows[side]) == self.rooms[side]:
                return None
            rows[side].insert(0, piece)
        else:
            if not rows[side]:
                return None
            piece = rows[side].pop(0)
        return (tuple(rows[0]), tuple(rows[1])), self.heavy[piece]

    def order(self):
        """All carryings that there are, in the document's order."""
        return [(side, piece) for side in (0, 1) for piece in range(len(self.heavy))] + [(2,), (3,)]

    def weight(self, number, wings):
        """How heavy all from this scene on is at the lightest, from these wings; None if it can't be done."""
        if (number, wings) not in self.known:
            self.known[number, wings] = self.search(number, wings)
        return self.known[number, wings]

    def search(self, number, wings):
        waiting = [(0, number, wings)]
        done = set()
        while waiting:
            weight, number, wings = heapq.heappop(waiting)
            if number == len(self.scenes):
                return weight
            if (number, wings) in done:
                continue
            done.add((number, wings))
            if self.stands(number, wings):
                heapq.heappush(waiting, (weight, number + 1, wings))
            for carrying in self.order():
                behind = self.carry(wings, carrying)
                if behind:
                    heapq.heappush(waiting, (weight + behind[1], number, behind[0]))
        return None


def carryings_of(row):
    """A scene's row, cut into carryings."""
    cut = []
    place = 0
    while place < len(row):
        size = 2 if row[place] in (0, 1) else 1
        cut.append(tuple(row[place:place + size]))
        place += size
    return cut


def starts(many, rooms):
    """All that may stand in the two wings."""
    found = []
    for off in range(many + 1):
        for row in itertools.permutations(range(many), off):
            for cut in range(off + 1):
                if cut <= rooms[0] and off - cut <= rooms[1]:
                    found.append((row[:cut], row[cut:]))
    return found


def subsets(many):
    return [pieces for size in range(many + 1) for pieces in itertools.combinations(range(many), size)]


class Searched(unittest.TestCase):
    def held(self, theatre):
        """Hold both calls against the search; give back the lightest weight."""
        wanted = theatre.weight(0, theatre.start)
        answer = told(*theatre.calls, ways())
        if wanted is None:
            self.assertEqual(answer, [-6], theatre.calls)
            self.assertEqual(told(*theatre.calls, least()), [-6], theatre.calls)
        else:
            self.assertEqual(answer[0], wanted, theatre.calls)
            self.assertEqual(told(*theatre.calls, least()), [wanted], theatre.calls)
            self.rows_held(theatre, wanted, answer[1:])
        return wanted

    def rows_held(self, theatre, wanted, rows):
        self.assertEqual(len(rows), len(theatre.scenes), theatre.calls)
        wings = theatre.start
        carried = 0
        for number, row in enumerate(rows):
            for carrying in carryings_of(row):
                self.assertFalse(self.over(theatre, number, wings), theatre.calls)
                self.assertEqual(carrying, self.first(theatre, number, wings), theatre.calls)
                wings, weight = theatre.carry(wings, carrying)
                carried += weight
            self.assertTrue(theatre.stands(number, wings), theatre.calls)
            self.assertTrue(self.over(theatre, number, wings), theatre.calls)
        self.assertEqual(carried, wanted, theatre.calls)

    def over(self, theatre, number, wings):
        lightest = theatre.weight(number, wings)
        return theatre.stands(number, wings) and theatre.weight(number + 1, wings) == lightest

    def first(self, theatre, number, wings):
        lightest = theatre.weight(number, wings)
        for carrying in theatre.order():
            behind = theatre.carry(wings, carrying)
            if behind and behind[1] + theatre.weight(number, behind[0]) == lightest:
                return carrying
        return None


class Small(Searched):
    def test_no_pieces_and_one(self):
        for rooms in itertools.product((0, 1, 3), repeat=2):
            for many in (0, 1):
                for wings in starts(many, rooms):
                    for length in range(5):
                        for scenes in itertools.product(subsets(many), repeat=length):
                            self.held(Theatre([7] * many, rooms, wings, scenes))

    def test_two_pieces(self):
        for heavy, rooms in itertools.product(([3, 3], [2, 5], [5, 2]), itertools.product(range(3), repeat=2)):
            for wings in starts(2, rooms):
                for length in range(3):
                    for scenes in itertools.product(subsets(2), repeat=length):
                        self.held(Theatre(heavy, rooms, wings, scenes))

    def test_two_pieces_and_four_scenes(self):
        for rooms in ((2, 0), (0, 3), (1, 1), (2, 1)):
            for wings in starts(2, rooms)[::2]:
                for scenes in itertools.product(subsets(2), repeat=4):
                    self.held(Theatre([1, 4], rooms, wings, scenes))

    def test_three_pieces(self):
        for rooms, heavy in [((1, 1), [1, 2, 3]), ((2, 1), [3, 1, 2]), ((3, 0), [4, 4, 4]), ((0, 2), [9, 1, 5])]:
            for wings in starts(3, rooms)[::3]:
                for scenes in itertools.product(subsets(3), repeat=2):
                    self.held(Theatre(heavy, rooms, wings, scenes))


class Drawn(Searched):
    """Houses drawn with a written seed, so that each run draws the same ones."""

    def drawn(self, chance, many, rooms, most):
        heavy = [chance.randint(1, most) for piece in range(many)]
        wings = chance.choice(starts(many, rooms))
        scenes = [chance.choice(subsets(many)) for number in range(chance.randint(1, 4))]
        return Theatre(heavy, rooms, wings, scenes)

    def test_three_pieces(self):
        chance = random.Random(3)
        for rooms in itertools.product(range(4), repeat=2):
            for turn in range(15):
                self.held(self.drawn(chance, 3, rooms, chance.choice((1, 3, 1000))))

    def test_four_pieces(self):
        chance = random.Random(4)
        for rooms in itertools.product(range(4), repeat=2):
            for turn in range(3):
                self.held(self.drawn(chance, 4, rooms, chance.choice((2, 10, 1000))))

    def test_four_pieces_and_four_scenes(self):
        chance = random.Random(5)
        seen = []
        for turn in range(4):
            theatre = self.drawn(chance, 4, (3, 3), 1000)
            scenes = [chance.choice(subsets(4)) for number in range(4)]
            seen.append(self.held(Theatre(theatre.heavy, (3, 3), theatre.start, scenes)))
        self.assertNotIn(None, seen)


if __name__ == "__main__":
    unittest.main()
