"""check: whether carryings can be done, and how all would stand."""

import itertools
import unittest

from sceneshift.stage import answers
from tests.helper import LARGEST, begins, check, drop, least, line, scene, told, ways

HOUSE = begins([5, 6, 7, 8], 2, 1, [3], [1])


def off_left(piece):
    return (0, piece)


def off_right(piece):
    return (1, piece)


ON_LEFT = (2,)
ON_RIGHT = (3,)


def expected(heavy, rooms, wings, carryings):
    """What the document says check answers, by keeping each piece's place."""
    place = {piece: "on" for piece in range(len(heavy))}
    rows = {"left": list(wings[0]), "right": list(wings[1])}
    room = {"left": rooms[0], "right": rooms[1]}
    for name, row in rows.items():
        place.update({piece: name for piece in row})
    weight = 0
    for number, carrying in enumerate(carryings):
        name = "left" if carrying[0] in (0, 2) else "right"
        if carrying[0] in (2, 3):
            if not rows[name]:
                return [0, [number]]
            piece, rows[name] = rows[name][0], rows[name][1:]
            place[piece] = "on"
        else:
            piece = carrying[1]
            if place.get(piece) != "on" or len(rows[name]) >= room[name]:
                return [0, [number]]
            rows[name] = [piece] + rows[name]
            place[piece] = name
        weight += heavy[piece]
    return [1, [weight], [piece for piece in sorted(place) if place[piece] == "on"], rows["left"], rows["right"]]


class CanBeDone(unittest.TestCase):
    def test_none_at_all(self):
        self.assertEqual(told(HOUSE, check()), [1, [0], [0, 2], [3], [1]])
        self.assertEqual(told(begins([5, 6]), check()), [1, [0], [0, 1], [], []])
        self.assertEqual(told(begins([], 3, 3), check()), [1, [0], [], [], []])

    def test_each_sort(self):
        self.assertEqual(told(HOUSE, check(off_left(0))), [1, [5], [2], [0, 3], [1]])
        self.assertEqual(told(HOUSE, check(off_left(2))), [1, [7], [0], [2, 3], [1]])
        self.assertEqual(told(HOUSE, check(ON_LEFT)), [1, [8], [0, 2, 3], [], [1]])
        self.assertEqual(told(HOUSE, check(ON_RIGHT)), [1, [6], [0, 1, 2], [3], []])
        self.assertEqual(told(begins([5, 6], 1, 2, [], [1]), check(off_right(0))), [1, [5], [], [], [0, 1]])

    def test_one_behind_another(self):
        self.assertEqual(told(HOUSE, check(ON_RIGHT, off_right(0))), [1, [11], [1, 2], [3], [0]])
        self.assertEqual(told(HOUSE, check(ON_LEFT, off_left(3), ON_LEFT)), [1, [24], [0, 2, 3], [], [1]])
        self.assertEqual(told(HOUSE, check(off_left(2), ON_RIGHT, off_right(1), ON_LEFT)), [1, [26], [0, 2], [3], [1]])

    def test_the_nearest_first(self):
        house = begins([5, 6, 7, 8], 3, 3, [2], [3])
        self.assertEqual(told(house, check(off_left(0), off_left(1))), [1, [11], [], [1, 0, 2], [3]])
        self.assertEqual(told(house, check(off_right(1), off_right(0))), [1, [11], [], [2], [0, 1, 3]])
        self.assertEqual(told(house, check(off_left(0), ON_LEFT, ON_LEFT)), [1, [17], [0, 1, 2], [], [3]])
        wide = begins([5, 6, 7, 8], 3, 3, [2, 0, 1], [])
        self.assertEqual(told(wide, check(ON_LEFT)), [1, [7], [2, 3], [0, 1], []])
        self.assertEqual(told(wide, check(ON_LEFT, ON_LEFT)), [1, [12], [0, 2, 3], [1], []])

    def test_what_is_on_rises(self):
        house = begins([5, 6, 7, 8], 2, 2, [3, 1], [2, 0])
        self.assertEqual(told(house, check(ON_LEFT, ON_RIGHT, ON_LEFT, ON_RIGHT)), [1, [26], [0, 1, 2, 3], [], []])
        self.assertEqual(told(house, check(ON_LEFT, ON_RIGHT)), [1, [15], [2, 3], [1], [0]])

    def test_thirty(self):
        house = begins([1000, 1], 1, 1)
        self.assertEqual(told(house, check(*[off_left(0), ON_LEFT] * 15)), [1, [30000], [0, 1], [], []])
        self.assertEqual(told(house, check(*[off_right(1), ON_RIGHT] * 15)), [1, [30], [0, 1], [], []])
        self.assertEqual(
            told(house, check(*[off_left(0), ON_LEFT] * 14, off_left(1), off_right(0))), [1, [29001], [], [1], [0]])

    def test_room_that_was_made(self):
        house = begins([5, 6], 1, 0, [0])
        self.assertEqual(told(house, check(ON_LEFT, off_left(1))), [1, [11], [0], [1], []])
        self.assertEqual(told(house, check(off_left(1))), [0, [0]])


class CannotBeDone(unittest.TestCase):
    def test_a_piece_that_there_is_not(self):
        for piece in (4, 5, LARGEST):
            self.assertEqual(told(HOUSE, check(off_left(piece))), [0, [0]])
            self.assertEqual(told(begins([5] * 4, 3, 3), check(off_right(piece))), [0, [0]])
            self.assertEqual(told(begins([5] * 4, 3, 3), check(off_left(0), off_right(piece))), [0, [1]])
        self.assertEqual(told(begins([], 3, 3), check(off_left(0))), [0, [0]])
        self.assertEqual(told(begins([], 3, 3), check(off_right(0))), [0, [0]])

    def test_one_that_is_off_already(self):
        house = begins([5, 6, 7, 8], 3, 3, [3], [1])
        for piece in (1, 3):
            self.assertEqual(told(house, check(off_left(piece))), [0, [0]])
            self.assertEqual(told(house, check(off_right(piece))), [0, [0]])
        for again in (off_left(0), off_right(0)):
            self.assertEqual(told(house, check(off_left(0), again)), [0, [1]])
            self.assertEqual(told(house, check(off_right(0), again)), [0, [1]])

    def test_no_room_on_that_side(self):
        for room in range(4):
            fits = [off_left(piece) for piece in range(room)]
            self.assertEqual(told(begins([1] * 4, room, 3), check(*fits))[:2], [1, [room]])
            self.assertEqual(told(begins([1] * 4, room, 3), check(*fits, off_left(3))), [0, [room]])
            fits = [off_right(piece) for piece in range(room)]
            self.assertEqual(told(begins([1] * 4, 3, room), check(*fits))[:2], [1, [room]])
            self.assertEqual(told(begins([1] * 4, 3, room), check(*fits, off_right(3))), [0, [room]])
        self.assertEqual(told(HOUSE, check(off_right(0))), [0, [0]])

    def test_an_empty_wing(self):
        self.assertEqual(told(begins([5], 1, 1), check(ON_LEFT)), [0, [0]])
        self.assertEqual(told(begins([5], 1, 1), check(ON_RIGHT)), [0, [0]])
        self.assertEqual(told(begins([5], 1, 1, [0]), check(ON_RIGHT)), [0, [0]])
        self.assertEqual(told(begins([5], 1, 1, [], [0]), check(ON_LEFT)), [0, [0]])
        self.assertEqual(told(HOUSE, check(ON_LEFT, ON_LEFT)), [0, [1]])
        self.assertEqual(told(HOUSE, check(ON_RIGHT, ON_RIGHT)), [0, [1]])

    def test_the_first_of_several(self):
        self.assertEqual(told(HOUSE, check(ON_LEFT, ON_LEFT, off_left(9), ON_LEFT)), [0, [1]])
        self.assertEqual(told(HOUSE, check(off_left(9), ON_LEFT)), [0, [0]])
        self.assertEqual(told(HOUSE, check(off_left(0), ON_RIGHT, ON_LEFT, off_right(0), ON_RIGHT, ON_RIGHT)), [0, [5]])

    def test_the_last_of_thirty(self):
        house = begins([5], 1, 1)
        most = [off_left(0), ON_LEFT] * 14 + [off_left(0)]
        self.assertEqual(told(house, check(*most, ON_LEFT)), [1, [150], [0], [], []])
        self.assertEqual(told(house, check(*most, ON_RIGHT)), [0, [29]])
        self.assertEqual(told(house, check(*most, off_right(LARGEST))), [0, [29]])

    def test_thirty_of_two_numbers_each(self):
        self.assertEqual(told(HOUSE, check(*[off_left(LARGEST)] * 30)), [0, [0]])
        self.assertEqual(told(HOUSE, check(*[off_right(LARGEST)] * 30), drop()), [-4])


class AheadOfAnyBegins(unittest.TestCase):
    def test_none_at_all(self):
        self.assertEqual(told(check()), [1, [0], [], [], []])

    def test_each_sort(self):
        for carrying in (off_left(0), off_right(0), ON_LEFT, ON_RIGHT, off_left(LARGEST), off_right(LARGEST)):
            self.assertEqual(told(check(carrying)), [0, [0]])
            self.assertEqual(told(check(carrying), check()), [1, [0], [], [], []])


class AgainstTheDocument(unittest.TestCase):
    def test_all_short_ones(self):
        sorts = [off_left(0), off_left(1), off_left(2), off_right(0), off_right(1), off_right(2), ON_LEFT, ON_RIGHT]
        heavy = [1, 20]
        for rooms, wings in [((1, 1), ([], [])), ((2, 0), ([1], [])), ((1, 2), ([], [0, 1])), ((1, 1), ([1], [0]))]:
            house = begins(heavy, *rooms, *wings)
            for length in range(5):
                for carryings in itertools.product(sorts, repeat=length):
                    wanted = expected(heavy, rooms, wings, carryings)
                    self.assertEqual(told(house, check(*carryings)), wanted, carryings)


class NothingChanged(unittest.TestCase):
    calls = [HOUSE, scene(1, 3), scene(0, 2), scene()]
    checks = [
        check(), check(ON_LEFT), check(ON_RIGHT, ON_LEFT, off_right(0), off_left(2), off_left(1)),
        check(off_left(0), off_left(2)), check(ON_LEFT, ON_RIGHT, ON_RIGHT), check(off_right(LARGEST)),
    ]

    def test_least_and_ways_behind_it(self):
        for asked in (least(), ways()):
            wanted = told(*self.calls, asked)
            for between in self.checks:
                self.assertEqual(told(*self.calls, between, asked), wanted)
            self.assertEqual(told(*self.calls, *self.checks, asked), wanted)

    def test_a_second_check_behind_it(self):
        for between, second in itertools.product(self.checks, repeat=2):
            self.assertEqual(told(*self.calls, between, second), told(*self.calls, second))

    def test_scenes_behind_it(self):
        for between in self.checks:
            self.assertEqual(told(*self.calls, between, drop()), [2])
            self.assertEqual(told(*self.calls, between, scene(0)), [3])

    def test_scenes_do_not_matter_to_it(self):
        for asked in self.checks:
            self.assertEqual(told(*self.calls, asked), told(HOUSE, asked))


class BehindOthers(unittest.TestCase):
    def test_from_how_it_stood_at_begins(self):
        wanted = [1, [0], [0, 2], [3], [1]]
        for between in (least(), ways(), check(ON_LEFT), scene(1), scene(9), begins([0]), begins([1], 0, 0, [0])):
            self.assertEqual(told(HOUSE, scene(1), between, check()), wanted)

    def test_a_new_begins(self):
        self.assertEqual(told(HOUSE, check(ON_LEFT), begins([9], 1, 0, [0]), check()), [1, [0], [], [0], []])
        self.assertEqual(told(HOUSE, begins([9], 1, 0, [0]), check(ON_LEFT)), [1, [9], [0], [], []])

    def test_what_ways_answers_can_be_done(self):
        calls = [HOUSE, scene(1, 3), scene(0, 2), scene(0, 1)]
        answer = told(*calls, ways())
        numbers = [number for row in answer[1:] for number in row]
        many = 0
        place = 0
        while place < len(numbers):
            place += 2 if numbers[place] < 2 else 1
            many += 1
        done = told(*calls, [5, many, len(numbers)] + numbers)
        self.assertEqual(done[:3], [1, [answer[0]], [0, 1]])


class Told(unittest.TestCase):
    def test_number_by_number(self):
        house = [0, 2, 1, 3, 10, 20, 30, 1, 2, 0]
        self.assertEqual(answers(house + [5, 3, 5, 0, 1, 1, 0, 2]), [1, 25, 9, 1, 1, 50, 1, 1, 1, 2, 1, 0])
        self.assertEqual(answers(house + [5, 1, 1, 3]), [1, 25, 3, 0, 1, 0])
        self.assertEqual(answers(house + [5, 0, 0]), [1, 25, 9, 1, 1, 0, 2, 0, 1, 1, 2, 0])

    def test_the_call_behind_it_is_read(self):
        self.assertEqual(answers(line(check(*[off_left(LARGEST)] * 30), check(), drop())),
                         [3, 0, 1, 0, 6, 1, 1, 0, 0, 0, 0, 1, -4])


if __name__ == "__main__":
    unittest.main()
