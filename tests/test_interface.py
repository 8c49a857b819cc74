"""The interface: what is handed in and what is given back."""

import time
import unittest

from sceneshift import stage
from sceneshift.stage import answers
from tests.helper import LARGEST, begins, check, drop, least, line, scene, split, ways

EACH = line(
    scene(), drop(), drop(), begins([3, 4], 1, 1, [1], [0]), scene(0, 1), scene(2),
    begins([3, 4], 1, 1, [1], [1]), scene(1), least(), ways(), check((2,), (3,), (1, 1)), check((2,), (2,)),
    drop(), begins([LARGEST]), ways(), begins([3, 4]), scene(), least(), ways(), check(), begins([]), ways(), drop(),
)
GIVEN = [
    [0], [0], [-4], [7], [0], [-1],
    [-2], [1], [10], [10, 2, 2, 3, 2, 0, 0], [1, 1, 11, 1, 0, 0, 1, 1], [0, 1, 1],
    [1], [-1], [7, 2, 2, 3], [1], [0], [-6], [-6], [1, 1, 0, 2, 0, 1, 0, 0], [1], [0], [-4],
]


class GivenBack(unittest.TestCase):
    def test_one_call(self):
        self.assertEqual(answers([0, 0, 0, 0, 0, 0]), [1, 1])
        self.assertEqual(answers([1, 0]), [1, 0])
        self.assertEqual(answers([2]), [1, -4])
        self.assertEqual(answers([3]), [1, 0])
        self.assertEqual(answers([4]), [1, 0])
        self.assertEqual(answers([5, 0, 0]), [6, 1, 1, 0, 0, 0, 0])

    def test_where_each_number_of_begins_stands(self):
        self.assertEqual(answers([0, 2, 1, 3, 10, 20, 30, 2, 2, 0, 1, 1]), [1, 25])
        self.assertEqual(answers([0, 1, 2, 3, 10, 20, 30, 2, 2, 0, 1, 1]), [1, -2])
        self.assertEqual(answers([0, 0, 3, 1, 1000, 0, 1, 0]), [1, 2])
        self.assertEqual(answers([0, 3, 0, 1, 1000, 0, 1, 0]), [1, -2])

    def test_several_calls(self):
        self.assertEqual(answers(EACH), [number for told in GIVEN for number in [len(told)] + told])

    def test_one_list_of_ways_for_each_scene(self):
        house = begins([3, 4], 1, 1, [1])
        self.assertEqual(answers(line(house, ways())), [1, 7, 1, 0])
        self.assertEqual(answers(line(house, scene(0), ways())), [1, 7, 1, 0, 2, 0, 0])
        self.assertEqual(answers(line(house, scene(0), scene(0, 1), scene(0, 1), ways())),
                         [1, 7, 1, 0, 1, 1, 1, 2, 5, 4, 0, 1, 2, 0])

    def test_a_refusal_is_its_number_alone(self):
        self.assertEqual(answers(line(begins([3]), scene(0), scene(), least(), ways())),
                         [1, 1, 1, 0, 1, 1, 1, -6, 1, -6])

    def test_forty_calls(self):
        self.assertEqual(answers(line(*[scene(), drop()] * 20)), [1, 0, 1, 0] * 20)
        self.assertEqual(answers(line(*[drop()] * 40)), [1, -4] * 40)
        self.assertEqual(answers(line(*[least(), ways()] * 20)), [1, 0] * 40)
        self.assertEqual(answers(line(*[check()] * 40)), [6, 1, 1, 0, 0, 0, 0] * 40)

    def test_forty_calls_of_the_largest_house(self):
        house = [begins([1000, 999, 3, 500], 3, 3, [2, 0], [3]), scene(0, 2), scene(1), scene(), scene(0, 1, 3)]
        started = time.monotonic()
        given = split(answers(line(*house, *[least(), ways()] * 17, check((2,)))))
        self.assertLess(time.monotonic() - started, 4)
        self.assertEqual(len(given), 40)
        for turn in range(5, 39, 2):
            self.assertEqual(given[turn], given[5])
            self.assertEqual(given[turn + 1], given[6])
        self.assertEqual(given[5], given[6][:1])

    def test_the_longest_lists_of_numbers(self):
        most = begins([1000, 999, 998, 997], 3, 3, [3, 2, 1], [0])
        told = line(*[most, check(*[(1, LARGEST)] * 30)] * 20)
        self.assertEqual(answers(told), [1, 213, 3, 0, 1, 0] * 20)

    def test_rows_of_thirty_are_read_to_their_end(self):
        most = [LARGEST] * 30
        told = line(begins(most, LARGEST, LARGEST, most, most), scene(*most), begins([1], 3, 3, most, most), drop())
        self.assertEqual(answers(told), [1, -1, 1, -1, 1, -2, 1, -4])

    def test_it_is_a_list_of_whole_numbers(self):
        given = answers(EACH)
        self.assertIs(type(given), list)
        for number in given:
            self.assertIs(type(number), int)


class HandedIn(unittest.TestCase):
    def test_the_list_is_as_it_was(self):
        told = list(EACH)
        answers(told)
        self.assertEqual(told, EACH)

    def test_it_is_not_changed_for_a_while_either(self):
        class Watched(list):
            def refuse(self, *told):
                raise AssertionError("the list was changed")

            append = extend = insert = pop = remove = clear = sort = reverse = refuse
            __setitem__ = __delitem__ = __iadd__ = __imul__ = refuse

        self.assertEqual(answers(Watched(EACH)), answers(list(EACH)))

    def test_what_is_given_back_is_a_list_of_its_own(self):
        told = list(EACH)
        first = answers(told)
        wanted = list(first)
        first.clear()
        self.assertEqual(told, EACH)
        self.assertEqual(answers(told), wanted)


class NothingKept(unittest.TestCase):
    def test_the_same_list_answers_the_same(self):
        self.assertEqual(answers(EACH), answers(EACH))

    def test_pieces_and_scenes_are_gone_the_next_time(self):
        answers(line(begins([1, 2, 3]), scene(0), scene(1)))
        self.assertEqual(answers(scene(0)), [1, -1])
        self.assertEqual(answers(drop()), [1, -4])
        self.assertEqual(answers(scene()), [1, 0])
        self.assertEqual(answers(scene()), [1, 0])
        answers(line(begins([1, 2, 3], 2, 1, [1], [2]), scene(0), scene(1), least(), ways()))
        self.assertEqual(answers(least()), [1, 0])
        self.assertEqual(answers(ways()), [1, 0])
        self.assertEqual(answers(check()), [6, 1, 1, 0, 0, 0, 0])


class NoSuchCall(unittest.TestCase):
    def test_a_number_that_tells_no_call(self):
        for number in (6, LARGEST):
            with self.assertRaises(stage.UnknownCall):
                answers([number])


if __name__ == "__main__":
    unittest.main()
