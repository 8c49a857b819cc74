"""Promise 1: begins."""

import itertools
import unittest

from sceneshift.house import House
from tests.helper import LARGEST, ask, begins, drop, last, scene


def standings(many, left_room, right_room):
    """Every way in which the pieces may stand, written out one by one."""
    found = set()
    for order in itertools.permutations(range(many)):
        for first in range(many + 1):
            for second in range(first, many + 1):
                left = order[:first]
                right = order[first:second]
                if len(left) <= left_room and len(right) <= right_room:
                    found.add((frozenset(order[second:]), left, right))
    return found


def expected(heavy, left_room, right_room, left, right):
    """What the document says begins answers, told another way than the program does."""
    sizes = [len(heavy) in range(5), left_room in range(4), right_room in range(4)]
    if not all(sizes + [weight in range(1, 1001) for weight in heavy]):
        return -1
    off = list(left) + list(right)
    if set(off) - set(range(len(heavy))) or len(set(off)) != len(off):
        return -2
    if len(left) > left_room or len(right) > right_room:
        return -2
    return len(standings(len(heavy), left_room, right_room))


class WaysToStand(unittest.TestCase):
    def test_no_pieces(self):
        for left_room, right_room in itertools.product(range(4), repeat=2):
            self.assertEqual(ask(begins([], left_room, right_room)), [1])

    def test_no_room(self):
        for many in range(5):
            self.assertEqual(ask(begins([7] * many)), [1])

    def test_known_numbers(self):
        self.assertEqual(ask(begins([5], 1, 0)), [2])
        self.assertEqual(ask(begins([5], 0, 1)), [2])
        self.assertEqual(ask(begins([5], 3, 3)), [3])
        self.assertEqual(ask(begins([5, 6], 1, 1)), [7])
        self.assertEqual(ask(begins([5, 6], 2, 0)), [5])
        self.assertEqual(ask(begins([1, 2, 3, 4], 3, 0)), [41])
        self.assertEqual(ask(begins([1, 2, 3, 4], 0, 3)), [41])
        self.assertEqual(ask(begins([1, 2, 3, 4], 3, 3)), [1 + 8 + 36 + 96 + 72])

    def test_every_size_against_a_count_one_by_one(self):
        for many, left_room, right_room in itertools.product(range(5), range(4), range(4)):
            wanted = len(standings(many, left_room, right_room))
            self.assertEqual(ask(begins([1] * many, left_room, right_room)), [wanted])

    def test_where_the_pieces_stand_does_not_change_the_number(self):
        wanted = len(standings(4, 2, 3))
        for left, right in [((), ()), ((3, 0), ()), ((), (2, 1, 3)), ((1,), (0,)), ((3, 1), (2, 0))]:
            self.assertEqual(ask(begins([9, 8, 7, 6], 2, 3, left, right)), [wanted])

    def test_how_heavy_does_not_change_the_number(self):
        self.assertEqual(ask(begins([1, 1000], 1, 1)), ask(begins([500, 500], 1, 1)))


class SizesRefused(unittest.TestCase):
    def test_how_many_pieces(self):
        self.assertEqual(ask(begins([1] * 4)), [1])
        self.assertEqual(ask(begins([1] * 5)), [-1])
        self.assertEqual(ask(begins([1] * 30)), [-1])

    def test_how_heavy(self):
        for place in range(4):
            for weight, wanted in [(0, -1), (1, 1), (1000, 1), (1001, -1), (LARGEST, -1)]:
                heavy = [10, 20, 30, 40]
                heavy[place] = weight
                self.assertEqual(ask(begins(heavy)), [wanted])

    def test_room(self):
        for room, wanted in [(3, 2), (4, -1), (LARGEST, -1)]:
            self.assertEqual(ask(begins([1], room, 0)), [wanted])
            self.assertEqual(ask(begins([1], 0, room)), [wanted])
        self.assertEqual(ask(begins([], 4, 0)), [-1])
        self.assertEqual(ask(begins([], 0, 4)), [-1])
        self.assertEqual(ask(begins([1], 4, 4)), [-1])


class WingsRefused(unittest.TestCase):
    def test_a_piece_that_there_is_not(self):
        self.assertEqual(ask(begins([1, 1], 1, 0, [1])), [3])
        self.assertEqual(ask(begins([1, 1], 0, 1, [], [1])), [3])
        for piece in (2, 3, LARGEST):
            self.assertEqual(ask(begins([1, 1], 1, 1, [piece])), [-2])
            self.assertEqual(ask(begins([1, 1], 1, 1, [], [piece])), [-2])
        self.assertEqual(ask(begins([1, 1], 2, 2, [0, 2])), [-2])
        self.assertEqual(ask(begins([], 1, 1, [0])), [-2])
        self.assertEqual(ask(begins([], 1, 1, [], [0])), [-2])
        self.assertEqual(ask(begins([1] * 4, 3, 3, [4])), [-2])

    def test_a_piece_told_twice(self):
        self.assertEqual(ask(begins([1] * 3, 3, 3, [0, 0])), [-2])
        self.assertEqual(ask(begins([1] * 3, 3, 3, [2, 1, 2])), [-2])
        self.assertEqual(ask(begins([1] * 3, 3, 3, [], [1, 1])), [-2])
        self.assertEqual(ask(begins([1] * 3, 3, 3, [], [0, 1, 0])), [-2])
        self.assertEqual(ask(begins([1] * 3, 3, 3, [1], [1])), [-2])
        self.assertEqual(ask(begins([1] * 3, 3, 3, [0, 2], [1, 0])), [-2])

    def test_more_than_have_room(self):
        for room in range(4):
            wanted = len(standings(4, room, room))
            fits = list(range(room))
            over = list(range(room + 1))
            self.assertEqual(ask(begins([1] * 4, room, room, fits)), [wanted])
            self.assertEqual(ask(begins([1] * 4, room, room, [], fits)), [wanted])
            self.assertEqual(ask(begins([1] * 4, room, 3, over)), [-2])
            self.assertEqual(ask(begins([1] * 4, 3, room, [], over)), [-2])

    def test_room_of_one_wing_is_none_of_the_other(self):
        self.assertEqual(ask(begins([1] * 4, 1, 3, [0, 1], [2])), [-2])
        self.assertEqual(ask(begins([1] * 4, 3, 1, [0], [1, 2])), [-2])

    def test_wings_of_thirty(self):
        many = list(range(30))
        self.assertEqual(ask(begins([1] * 4, 3, 3, many)), [-2])
        self.assertEqual(ask(begins([1] * 4, 3, 3, [], many)), [-2])
        self.assertEqual(ask(begins([1] * 4, 3, 3, [LARGEST] * 30, [LARGEST] * 30)), [-2])


class BothRefusals(unittest.TestCase):
    def test_the_one_told_first_is_answered(self):
        wrong_wings = [([9], []), ([], [9]), ([0, 0], []), ([], [0, 0]), ([0], [0]), ([0, 1, 2, 3], [])]
        for left, right in wrong_wings:
            self.assertEqual(ask(begins([1] * 4, 3, 3, left, right)), [-2])
            for heavy in ([1] * 5, [0, 1, 1, 1], [1, 1, 1, 1001]):
                self.assertEqual(ask(begins(heavy, 3, 3, left, right)), [-1])
            self.assertEqual(ask(begins([1] * 4, 4, 3, left, right)), [-1])
            self.assertEqual(ask(begins([1] * 4, 3, 4, left, right)), [-1])

    def test_all_at_its_largest(self):
        most = [LARGEST] * 30
        self.assertEqual(ask(begins(most, LARGEST, LARGEST, most, most)), [-1])


class AgainstTheDocument(unittest.TestCase):
    def test_many_small_houses(self):
        rows = [list(told) for length in range(4) for told in itertools.product(range(3), repeat=length)]
        for many, left_room, right_room in itertools.product((0, 2, 3), (0, 2, 3, 4), (0, 1, 3)):
            for left, right in itertools.product(rows, rows[:13]):
                told = ([5] * many, left_room, right_room, left, right)
                self.assertEqual(ask(begins(*told)), [expected(*told)], told)


class BehindIt(unittest.TestCase):
    refused = [
        begins([1] * 5), begins([0]), begins([1001]), begins([1], 4, 0), begins([1], 0, 4),
        begins([1], 1, 1, [1]), begins([1], 1, 1, [], [1]), begins([1, 1], 2, 2, [0, 0]),
        begins([1], 1, 1, [0], [0]), begins([1], 0, 0, [0]), begins([1], 0, 0, [], [0]),
    ]

    def test_a_refused_one_leaves_pieces_and_scenes(self):
        for wrong in self.refused:
            told = ask(begins([3, 4, 5], 1, 1), scene(0), scene(2), wrong, scene(0, 1, 2), scene(3), drop(), drop())
            self.assertEqual(told[:3], [13, 0, 1])
            self.assertIn(told[3], (-1, -2))
            self.assertEqual(told[4:], [2, -1, 2, 1])

    def test_a_refused_one_as_the_first_call_leaves_nothing(self):
        for wrong in self.refused:
            self.assertEqual(ask(wrong, scene(0), scene(), drop(), drop())[1:], [-1, 0, 0, -4])

    def test_a_new_one_changes_the_pieces(self):
        self.assertEqual(last(begins([1]), begins([1, 2, 3]), scene(0, 2)), 0)
        self.assertEqual(last(begins([1, 2, 3]), begins([1]), scene(0, 2)), -1)
        self.assertEqual(last(begins([1, 2, 3]), begins([]), scene(0)), -1)

    def test_a_new_one_has_no_scenes(self):
        told = ask(begins([1, 2]), scene(0), scene(1), begins([1, 2]), drop(), scene(1))
        self.assertEqual(told, [1, 0, 1, 1, -4, 0])


class WhatIsKept(unittest.TestCase):
    def kept(self, house):
        return (house.heavy, house.left_room, house.right_room, house.left, house.right, house.scenes)

    def test_all_that_is_told_is_kept(self):
        house = House()
        self.assertEqual(self.kept(house), ([], 0, 0, [], [], []))
        house.begins([9, 8, 7, 6], 2, 1, [3, 0], [1])
        house.scene([1, 3])
        self.assertEqual(self.kept(house), ([9, 8, 7, 6], 2, 1, [3, 0], [1], [[1, 3]]))

    def test_all_is_as_it_was_behind_a_refusal(self):
        house = House()
        house.begins([9, 8, 7, 6], 2, 1, [3, 0], [1])
        house.scene([1, 3])
        self.assertEqual(house.begins([5, 5], 4, 3, [0], [1]), -1)
        self.assertEqual(house.begins([5, 5], 3, 3, [0], [0]), -2)
        self.assertEqual(house.scene([1, 4]), -1)
        self.assertEqual(self.kept(house), ([9, 8, 7, 6], 2, 1, [3, 0], [1], [[1, 3]]))


if __name__ == "__main__":
    unittest.main()
