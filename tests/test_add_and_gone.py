import unittest

from nearestsites.land import answers
from tests.helper import add, adds, cell, gone, nearest, told, within

EIGHT = [(0, 0), (1, 0), (2, 0), (3, 0), (4, 0), (5, 0), (6, 0), (7, 0)]


class Adding(unittest.TestCase):
    def test_names_from_0_on(self):
        self.assertEqual(answers([0, 3, 4, 0, -5, 6, 0, 0, 0]), [1, 0, 1, 1, 1, 2])

    def test_sides_and_corners_belong_to_the_square(self):
        places = [(-100, -100), (100, -100), (100, 100), (-100, 100), (0, 100), (0, -100), (100, 0), (-100, 0)]
        self.assertEqual(told(adds(places)), [[name] for name in range(8)])

    def test_just_outside_each_side(self):
        for across, up in [(101, 0), (-101, 0), (0, 101), (0, -101), (101, 101), (-101, -101), (100, 101), (-101, 100)]:
            self.assertEqual(answers([0, across, up]), [1, -1])

    def test_far_outside(self):
        for far in (4294967295, -4294967295):
            self.assertEqual(answers([0, far, 0, 0, 0, far, 0, far, far]), [1, -1, 1, -1, 1, -1])

    def test_a_site_is_there(self):
        self.assertEqual(told(adds([(3, 4), (3, 4), (4, 3), (-3, -4), (3, 5)])), [[0], [-4], [1], [2], [3]])

    def test_the_eighth_and_the_ninth(self):
        self.assertEqual(told(adds(EIGHT + [(8, 0)])), [[name] for name in range(8)] + [[-2]])

    def test_outside_comes_before_there_are_8(self):
        self.assertEqual(told(adds(EIGHT + [(101, 0), (0, -101)]))[8:], [[-1], [-1]])

    def test_a_site_is_there_comes_before_there_are_8(self):
        self.assertEqual(told(adds(EIGHT + [(7, 0), (0, 0)]))[8:], [[-4], [-4]])

    def test_a_refused_add_uses_no_name_and_no_place(self):
        calls = adds([(0, 0), (101, 0), (0, 0), (1, 1)]) + [nearest(101, 1, 0, 1), gone(1), gone(2)]
        self.assertEqual(told(calls), [[0], [-1], [-4], [1], [1, 10001, 1, 1], [1], [-3]])

    def test_an_add_refused_for_want_of_room_leaves_all_as_it_was(self):
        calls = adds(EIGHT) + [add(8, 0), nearest(8, 1, 0, 1), gone(8), gone(3), add(8, 0), add(9, 0)]
        self.assertEqual(told(calls)[8:], [[-2], [1, 1, 1, 7], [-3], [7], [8], [-2]])


class Going(unittest.TestCase):
    def test_how_many_there_are_then(self):
        self.assertEqual(answers([0, 1, 1, 0, 2, 2, 0, 3, 3, 1, 1, 1, 0, 1, 2]), [1, 0, 1, 1, 1, 2, 1, 2, 1, 1, 1, 0])

    def test_no_such_site(self):
        self.assertEqual(answers([1, 0]), [1, -3])
        self.assertEqual(answers([1, 4294967295]), [1, -3])
        self.assertEqual(told([add(0, 0), gone(1), gone(0), gone(0)]), [[0], [-3], [0], [-3]])

    def test_no_name_is_given_twice(self):
        calls = [add(0, 0), gone(0), add(0, 0), add(1, 0), gone(2), gone(1), add(1, 0), gone(0), gone(3)]
        self.assertEqual(told(calls), [[0], [0], [1], [2], [1], [0], [3], [-3], [0]])

    def test_its_place_is_free_again(self):
        self.assertEqual(told([add(5, 5), add(5, 5), gone(0), add(5, 5)]), [[0], [-4], [0], [1]])

    def test_there_is_room_again(self):
        calls = adds(EIGHT) + [gone(0), add(0, 0), add(8, 0), gone(8), gone(7), add(8, 0), add(9, 0)]
        self.assertEqual(told(calls)[8:], [[7], [8], [-2], [7], [6], [9], [10]])

    def test_a_site_that_went_counts_nowhere(self):
        calls = [add(0, 0), add(10, 0), gone(0), nearest(0, 1, 0, 1), within(0, 0, 1, 0, 1), cell(0)]
        self.assertEqual(told(calls)[3:], [[1, 100, 1, 1], [0], [-3]])

    def test_a_refused_gone_leaves_all_as_it_was(self):
        calls = [add(1, 2), gone(7), nearest(0, 1, 0, 1), add(3, 4), gone(0)]
        self.assertEqual(told(calls), [[0], [-3], [1, 5, 1, 0], [1], [1]])


if __name__ == "__main__":
    unittest.main()
