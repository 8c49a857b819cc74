"""Promise 2: scene and drop."""

import itertools
import unittest

from tests.helper import LARGEST, ask, begins, drop, last, scene

FOUR = begins([1, 2, 3, 4], 1, 2, [3], [0])


class Scene(unittest.TestCase):
    def test_numbers_from_0_on(self):
        self.assertEqual(ask(FOUR, scene(0), scene(1, 2), scene(), scene(3))[1:], [0, 1, 2, 3])

    def test_no_pieces_some_and_all(self):
        for pieces in ((), (0,), (3,), (0, 3), (1, 2, 3), (0, 1, 2, 3)):
            self.assertEqual(last(FOUR, scene(*pieces)), 0)

    def test_two_scenes_alike_are_two(self):
        self.assertEqual(ask(FOUR, scene(1, 3), scene(1, 3))[1:], [0, 1])

    def test_one_that_the_wings_have_no_room_for_is_told_all_the_same(self):
        self.assertEqual(ask(begins([1, 2, 3]), scene(), scene(1)), [1, 0, 1])

    def test_pieces_that_do_not_rise(self):
        for pieces in ((1, 0), (3, 2, 1, 0), (0, 2, 1), (1, 2, 0), (0, 1, 3, 2)):
            self.assertEqual(last(FOUR, scene(*pieces)), -1)

    def test_two_pieces_alike(self):
        for pieces in ((0, 0), (3, 3), (0, 1, 1), (0, 0, 1), (0, 1, 2, 2, 3)):
            self.assertEqual(last(FOUR, scene(*pieces)), -1)

    def test_a_piece_that_there_is_not(self):
        for many in range(5):
            house = begins([1] * many)
            self.assertEqual(last(house, scene(*range(many))), 0)
            self.assertEqual(last(house, scene(*range(many + 1))), -1)
            self.assertEqual(last(house, scene(many)), -1)
            self.assertEqual(last(house, scene(LARGEST)), -1)

    def test_every_short_row_of_pieces(self):
        for many in range(5):
            rising = [list(told) for size in range(many + 1) for told in itertools.combinations(range(many), size)]
            for length in range(4):
                for pieces in itertools.product(range(6), repeat=length):
                    wanted = 0 if list(pieces) in rising else -1
                    self.assertEqual(last(begins([1] * many), scene(*pieces)), wanted)

    def test_thirty_pieces(self):
        self.assertEqual(last(FOUR, scene(*range(30))), -1)
        self.assertEqual(last(FOUR, scene(*[0] * 30)), -1)
        self.assertEqual(last(FOUR, scene(*[LARGEST] * 30)), -1)

    def test_a_fifth_scene(self):
        four = (FOUR, scene(), scene(0), scene(1), scene(2))
        self.assertEqual(last(*four), 3)
        for pieces in ((), (0,), (0, 1, 2, 3)):
            self.assertEqual(last(*four, scene(*pieces)), -5)
            self.assertEqual(last(*four, scene(*pieces), scene(*pieces)), -5)

    def test_of_both_refusals_the_one_told_first(self):
        four = (FOUR, scene(), scene(0), scene(1), scene(2))
        for pieces in ((1, 0), (2, 2), (4,), (LARGEST,), tuple(range(30))):
            self.assertEqual(last(*four, scene(*pieces)), -1)

    def test_all_is_as_it_was_behind_a_refusal(self):
        self.assertEqual(ask(FOUR, scene(0), scene(1, 0), scene(4), scene(2), drop())[1:], [0, -1, -1, 1, 1])
        told = ask(FOUR, scene(), scene(), scene(), scene(), scene(), scene(9), drop(), scene(3), scene(3))
        self.assertEqual(told[5:], [-5, -1, 3, 3, -5])


class Drop(unittest.TestCase):
    def test_down_to_none_and_behind_that(self):
        told = ask(FOUR, scene(), scene(), scene(), scene(), drop(), drop(), drop(), drop(), drop(), drop())
        self.assertEqual(told[5:], [3, 2, 1, 0, -4, -4])

    def test_none_told_yet(self):
        self.assertEqual(last(FOUR, drop()), -4)

    def test_none_behind_a_refused_scene(self):
        self.assertEqual(last(FOUR, scene(4), drop()), -4)

    def test_the_number_is_free_again(self):
        self.assertEqual(ask(FOUR, scene(0), scene(1), drop(), scene(2), drop(), drop())[1:], [0, 1, 1, 1, 1, 0])

    def test_all_is_as_it_was_behind_a_refusal(self):
        self.assertEqual(ask(FOUR, drop(), drop(), scene(0, 3), scene(4), drop())[1:], [-4, -4, 0, -1, 0])

    def test_the_pieces_stay(self):
        self.assertEqual(ask(FOUR, scene(0), drop(), scene(0, 1, 2, 3), scene(4))[1:], [0, 0, 0, -1])


class AheadOfAnyBegins(unittest.TestCase):
    def test_scene_first(self):
        self.assertEqual(ask(scene()), [0])
        self.assertEqual(ask(scene(0)), [-1])
        self.assertEqual(ask(scene(LARGEST)), [-1])
        self.assertEqual(ask(scene(), scene(), scene(), scene(), scene(), scene(0)), [0, 1, 2, 3, -5, -1])

    def test_drop_first(self):
        self.assertEqual(ask(drop()), [-4])
        self.assertEqual(ask(drop(), scene(), drop(), drop()), [-4, 0, 0, -4])

    def test_scenes_told_there_are_gone_behind_begins(self):
        self.assertEqual(ask(scene(), scene(), begins([1]), drop(), scene(0)), [0, 1, 1, -4, 0])

    def test_scenes_told_there_stay_behind_a_refused_begins(self):
        self.assertEqual(ask(scene(), begins([0]), begins([1], 1, 1, [1]), scene(), drop()), [0, -1, -2, 1, 1])


if __name__ == "__main__":
    unittest.main()
