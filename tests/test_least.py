"""Promise 3: least and ways, in houses worked out by hand."""

import itertools
import unittest

from tests.helper import LARGEST, begins, check, drop, last, least, scene, told, ways


class Cases(unittest.TestCase):
    def lightest(self, calls, weight, *rows):
        """Both calls, behind the same ones."""
        self.assertEqual(told(*calls, least()), [weight])
        self.assertEqual(told(*calls, ways()), [weight, *map(list, rows)])

    def refused(self, *calls):
        self.lightest(calls, -6)


class NothingToCarry(Cases):
    def test_no_scenes(self):
        self.lightest([begins([5, 6], 1, 1, [1])], 0)
        self.lightest([begins([5, 6, 7, 8], 3, 3, [1, 0], [3])], 0)
        self.lightest([begins([5, 6])], 0)
        self.lightest([begins([])], 0)

    def test_ahead_of_any_begins(self):
        self.lightest([], 0)
        self.lightest([scene()], 0, [])
        self.lightest([scene(), scene(), scene(), scene()], 0, [], [], [], [])
        self.lightest([scene(0), drop(), begins([0])], 0)

    def test_no_pieces(self):
        self.lightest([begins([], 3, 3), scene(), scene()], 0, [], [])

    def test_scenes_that_stand_already(self):
        self.lightest([begins([5, 6]), scene(0, 1)], 0, [])
        self.lightest([begins([5, 6], 1, 1, [1]), scene(0)], 0, [])
        self.lightest([begins([5, 6], 1, 1, [1], [0]), scene(), scene()], 0, [], [])
        self.lightest([begins([5, 6, 7, 8], 2, 3, [3, 1], [0]), scene(2), scene(2), scene(2), scene(2)],
                      0, [], [], [], [])

    def test_all_scenes_dropped(self):
        self.lightest([begins([5, 6], 1, 1), scene(0), drop()], 0)


class OneScene(Cases):
    def test_off_to_the_left_ahead_of_the_right(self):
        self.lightest([begins([5], 1, 1), scene()], 5, [0, 0])
        self.lightest([begins([5], 0, 1), scene()], 5, [1, 0])
        self.lightest([begins([5], 1, 0), scene()], 5, [0, 0])

    def test_on_from_either_wing(self):
        self.lightest([begins([5], 1, 1, [0]), scene(0)], 5, [2])
        self.lightest([begins([5], 1, 1, [], [0]), scene(0)], 5, [3])
        self.lightest([begins([5, 6], 1, 1, [1], [0]), scene(0, 1)], 11, [2, 3])
        self.lightest([begins([5, 6], 1, 1, [0], [1]), scene(0, 1)], 11, [2, 3])
        self.lightest([begins([5, 6], 1, 1, [0], [1]), scene(1)], 6, [3])

    def test_pieces_in_their_order(self):
        self.lightest([begins([5, 6, 7], 3, 0), scene()], 18, [0, 0, 0, 1, 0, 2])
        self.lightest([begins([7, 6, 5], 0, 3), scene()], 18, [1, 0, 1, 1, 1, 2])
        self.lightest([begins([5, 6, 7, 8], 3, 3), scene()], 26, [0, 0, 0, 1, 0, 2, 1, 3])
        self.lightest([begins([5, 6, 7, 8], 1, 3), scene()], 26, [0, 0, 1, 1, 1, 2, 1, 3])

    def test_off_ahead_of_on(self):
        self.lightest([begins([5, 6], 2, 2, [0]), scene(1)], 0, [])
        # Off to the left, piece 1 would stand ahead of piece 0; only the right wing is as light.
        self.lightest([begins([5, 6], 2, 2, [0]), scene(0)], 11, [1, 1, 2])
        self.lightest([begins([5, 6], 2, 2, [], [0]), scene(0)], 11, [0, 1, 3])
        self.lightest([begins([5, 6], 1, 0, [0]), scene(0)], 11, [2, 0, 1])

    def test_what_stands_in_front_is_carried_on_and_off_again(self):
        self.lightest([begins([5, 6], 2, 0, [0, 1]), scene(1)], 16, [2, 2, 0, 0])
        self.lightest([begins([5, 6], 2, 1, [0, 1]), scene(1)], 16, [2, 1, 0, 2])
        self.lightest([begins([5, 6, 7], 3, 0, [0, 1, 2]), scene(2)], 29, [2, 2, 2, 0, 0, 0, 1])
        self.lightest([begins([5, 6, 7], 0, 3, [], [2, 1, 0]), scene(0)], 31, [3, 3, 3, 1, 1, 1, 2])

    def test_room_that_is_full_already(self):
        self.lightest([begins([5, 6, 7], 1, 1, [0]), scene(2)], 6, [1, 1])
        self.lightest([begins([5, 6, 7], 1, 1, [], [0]), scene(2)], 6, [0, 1])
        self.lightest([begins([5, 6, 7], 1, 1, [2], [0]), scene(1, 2)], 7, [2])
        self.lightest([begins([5, 6, 7], 1, 1, [2], [0]), scene(0, 2)], 18, [2, 0, 1, 3])


class SeveralScenes(Cases):
    def test_there_and_back(self):
        self.lightest([begins([5, 6], 1, 1), scene(0), scene(0, 1)], 12, [0, 1], [2])
        self.lightest([begins([5, 6], 1, 1), scene(), scene(0), scene(0, 1)], 22, [0, 0, 1, 1], [2], [3])
        self.lightest([begins([5], 1, 1), scene(), scene(0), scene(), scene(0)], 20, [0, 0], [2], [0, 0], [2])

    def test_two_alike_behind_one_another(self):
        self.lightest([begins([5, 6], 1, 1), scene(0), scene(0)], 6, [0, 1], [])
        self.lightest([begins([5, 6], 1, 1), scene(0), scene(0), scene(1), scene(1)], 17, [0, 1], [], [1, 0, 2], [])
        self.lightest([begins([5, 6], 1, 1), scene(0, 1), scene(0, 1), scene(0)], 6, [], [], [0, 1])

    def test_the_order_in_a_wing_is_chosen_for_what_comes(self):
        # Off to the left as 0, 1 in turn, piece 1 would stand ahead of piece 0.
        self.lightest([begins([5, 6], 2, 0), scene(), scene(0)], 16, [0, 1, 0, 0], [2])
        self.lightest([begins([5, 6], 2, 0), scene(), scene(1)], 17, [0, 0, 0, 1], [2])

    def test_which_wing_matters_two_scenes_later(self):
        self.lightest([begins([5, 6], 2, 1), scene(0), scene(), scene(1), scene(0, 1)],
                      22, [0, 1], [1, 0], [2], [3])
        self.lightest([begins([5, 6], 2, 1), scene(0), scene(), scene(0), scene(0, 1)],
                      22, [0, 1], [0, 0], [2], [2])

    def test_what_is_lightest_for_one_scene_alone_is_not_taken(self):
        house = begins([1, 100, 10], 2, 1, [0], [1])
        self.lightest([house, scene()], 10, [0, 2])
        # Piece 2 in front of piece 0 would be 10 now and 21 for the next scene.
        self.lightest([house, scene(), scene(0)], 13, [2, 0, 2, 0, 0], [2])
        # The heavier piece 0 is better left where it is.
        other = begins([10, 100, 1], 2, 1, [0], [1])
        self.lightest([other, scene(), scene(0)], 13, [0, 2], [2, 2, 0, 2])

    def test_how_heavy_decides(self):
        for heavy, wanted in [([4, 100, 4], 16), ([4, 100, 5], 17), ([4, 100, 3], 13), ([4, 1, 4], 12)]:
            self.assertEqual(last(begins(heavy, 2, 1, [0], [1]), scene(), scene(0), least()), wanted)

    def test_the_heaviest_pieces(self):
        house = begins([1000, 1000, 1000, 1000], 3, 3)
        scenes = [scene(), scene(0, 1, 2, 3), scene(), scene(0, 1, 2, 3)]
        self.assertEqual(last(house, *scenes, least()), 16000)


class Refused(Cases):
    def test_want_of_room(self):
        self.refused(begins([5]), scene())
        self.refused(begins([5, 6]), scene(0))
        self.refused(begins([5, 6], 1, 0), scene())
        self.refused(begins([5, 6], 0, 1), scene())
        self.refused(begins([5, 6, 7], 1, 1), scene())
        self.refused(begins([5, 6, 7, 8], 3, 0), scene())
        self.refused(begins([5, 6, 7, 8], 0, 3, [], [0, 1, 2]), scene())

    def test_room_enough(self):
        for left_room, right_room in itertools.product(range(4), repeat=2):
            for many in range(5):
                wanted = 7 * many if many <= left_room + right_room else -6
                self.assertEqual(last(begins([7] * many, left_room, right_room), scene(), least()), wanted)

    def test_a_later_scene_alone(self):
        house = begins([5, 6], 1, 0)
        self.lightest([house, scene(0)], 6, [0, 1])
        self.refused(house, scene(0), scene())
        self.refused(house, scene(0, 1), scene(0), scene(1), scene())
        self.lightest([house, scene(0), scene(), drop()], 6, [0, 1])

    def test_an_earlier_scene_alone(self):
        house = begins([5, 6], 1, 0)
        self.refused(house, scene(), scene(0))
        self.refused(house, scene(), scene(0, 1))
        self.refused(house, scene(), scene(0, 1), scene(0, 1), scene(0, 1))
        self.refused(house, scene(0), scene(), scene(0))

    def test_all_is_as_it_was_behind_it(self):
        calls = [begins([5, 6], 1, 0, [1]), scene(1), scene()]
        self.refused(*calls)
        self.refused(*calls, least(), ways())
        self.lightest([*calls, least(), ways(), drop()], 11, [2, 0, 0])
        self.assertEqual(told(*calls, least(), ways(), drop(), scene()), [1])
        self.assertEqual(told(*calls, least(), ways(), check()), [1, [0], [0], [1], []])


class FromHowItStands(Cases):
    def test_whatever_was_asked_in_between(self):
        house = [begins([5, 6, 7], 2, 1, [0, 1]), scene(1), scene(0, 2)]
        wanted = [41, [1, 2, 2, 2, 0, 0], [2, 0, 1, 3]]
        self.assertEqual(told(*house, ways()), wanted)
        between = [least(), ways(), check((2,), (2,)), check((0, 2), (2,)), scene(7), begins([0]), scene(1), drop()]
        for calls in itertools.permutations(between[:5], 3):
            self.assertEqual(told(*house, *calls, ways()), wanted)
        self.assertEqual(told(*house, *between, ways()), wanted)
        self.assertEqual(told(*house, *between, least()), wanted[:1])

    def test_a_refused_begins_leaves_the_house(self):
        house = [begins([5, 6], 1, 1, [1]), scene(1)]
        for wrong in (begins([1] * 5), begins([1], 4, 0), begins([1, 1], 1, 1, [0], [0]), begins([LARGEST])):
            self.lightest([*house, wrong], 11, [1, 0, 2])

    def test_a_refused_scene_leaves_the_others(self):
        house = [begins([5, 6], 1, 1, [1]), scene(1)]
        for wrong in (scene(1, 0), scene(2), scene(LARGEST)):
            self.lightest([*house, wrong], 11, [1, 0, 2])
        self.lightest([*house, scene(1), scene(1), scene(1), scene(0)], 11, [1, 0, 2], [], [], [])

    def test_a_new_begins_in_the_middle(self):
        first = [begins([5, 6], 1, 1, [1]), scene(1), least(), ways()]
        self.lightest([*first, begins([9, 8, 7], 0, 2, [], [2])], 0)
        self.lightest([*first, begins([9, 8, 7], 0, 2, [], [2]), scene(0, 1, 2)], 7, [3])
        self.lightest([*first, begins([9, 8, 7], 0, 2, [], [2]), scene(0, 1, 2), begins([3], 1), scene()], 3, [0, 0])

    def test_scenes_told_and_dropped(self):
        house = begins([5, 6], 1, 1)
        self.lightest([house, scene(0), scene(), drop(), scene(1)], 17, [0, 1], [1, 0, 2])
        self.lightest([house, scene(0), drop(), scene(1)], 5, [0, 0])


if __name__ == "__main__":
    unittest.main()
