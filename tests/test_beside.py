import unittest

from nearestsites.land import answers
from tests.helper import add, adds, beside, cell, gone, joined, told

ROUND_A_CIRCLE = [(3, 4), (4, 3), (4, -3), (3, -4), (-3, -4), (-4, -3), (-4, 3), (-3, 4)]


def all_beside(places):
    return told(adds(places) + [beside(name) for name in range(len(places))])[len(places):]


class Beside(unittest.TestCase):
    def test_the_whole_list(self):
        self.assertEqual(answers([0, -50, 0, 0, 50, 0, 5, 0, 5, 1]), [1, 0, 1, 1, 2, 1, 1, 2, 1, 0])

    def test_one_site_has_none_beside_it(self):
        self.assertEqual(answers([0, 3, 4, 5, 0]), [1, 0, 1, 0])

    def test_a_row(self):
        self.assertEqual(all_beside([(0, 0), (20, 0), (-10, 0), (5, 0)]), [[2, 2, 3], [1, 3], [1, 0], [2, 0, 1]])

    def test_8_in_a_row(self):
        found = all_beside([(-90 + 20 * k, 7) for k in range(8)])
        self.assertEqual(found, [[1, 1]] + [[2, k - 1, k + 1] for k in range(1, 7)] + [[1, 6]])

    def test_one_in_the_middle_of_seven_names_rising(self):
        places = [(20, 0), (0, 20), (-20, 0), (3, 1), (0, -20), (15, 15), (-15, -15), (15, -15)]
        self.assertEqual(all_beside(places)[3], [7, 0, 1, 2, 4, 5, 6, 7])

    def test_four_that_meet_in_one_point(self):
        found = all_beside([(-10, -10), (10, -10), (10, 10), (-10, 10)])
        self.assertEqual(found, [[2, 1, 3], [2, 0, 2], [2, 1, 3], [2, 0, 2]])

    def test_four_that_nearly_meet_in_one_point(self):
        # One of the two across from one another comes a little nearer: these two get a short side.
        found = all_beside([(-10, -10), (10, -10), (10, 9), (-10, 10)])
        self.assertEqual(found, [[3, 1, 2, 3], [2, 0, 2], [3, 0, 1, 3], [2, 0, 2]])
        found = all_beside([(-10, -10), (10, -10), (10, 11), (-10, 10)])
        self.assertEqual(found, [[2, 1, 3], [3, 0, 2, 3], [2, 1, 3], [3, 0, 1, 2]])

    def test_eight_that_meet_in_one_point(self):
        expected = [[2] + sorted([(name - 1) % 8, (name + 1) % 8]) for name in range(8)]
        self.assertEqual(all_beside(ROUND_A_CIRCLE), expected)

    def test_a_line_that_only_touches_a_corner_of_the_cell(self):
        found = all_beside([(0, 0), (20, 0), (-20, 0), (0, 20), (0, -20), (20, 20)])
        self.assertEqual(found[0], [4, 1, 2, 3, 4])
        self.assertEqual(found[5], [2, 1, 3])

    def test_one_point_on_the_side_of_the_square(self):
        found = all_beside([(-4, 97), (4, 97), (0, 95)])
        self.assertEqual(found, [[1, 2], [1, 2], [2, 0, 1]])

    def test_one_point_on_each_side_of_the_square(self):
        for turned in (lambda x, y: (x, y), lambda x, y: (-x, -y), lambda x, y: (y, x), lambda x, y: (-y, x)):
            places = [turned(-4, 97), turned(4, 97), turned(0, 95)]
            self.assertEqual(all_beside(places), [[1, 2], [1, 2], [2, 0, 1]], places)

    def test_just_inside_and_just_outside_the_side_of_the_square(self):
        self.assertEqual(all_beside([(-4, 96), (4, 96), (0, 94)]), [[2, 1, 2], [2, 0, 2], [2, 0, 1]])
        self.assertEqual(all_beside([(-4, 98), (4, 98), (0, 96)]), [[1, 2], [1, 2], [2, 0, 1]])

    def test_one_point_in_the_corner_of_the_square(self):
        found = all_beside([(100, 95), (95, 100), (96, 97)])
        self.assertEqual(found, [[1, 2], [1, 2], [2, 0, 1]])

    def test_a_line_through_two_corners_of_the_square(self):
        self.assertEqual(all_beside([(-100, -100), (100, 100)]), [[1, 1], [1, 0]])

    def test_a_side_in_common_of_the_square_alone_counts_nothing(self):
        # The cells of the first and the last lie along the same side of the square, apart.
        self.assertEqual(all_beside([(-60, -100), (0, -100), (60, -100)]), [[1, 1], [2, 0, 2], [1, 1]])

    def test_sites_that_come_and_go(self):
        calls = adds([(-60, 0), (0, 0), (60, 0)]) + [
            beside(0), gone(1), beside(0), beside(2), beside(1), add(0, 1), beside(0), beside(3), beside(1)]
        self.assertEqual(told(calls)[3:], [[1, 1], [2], [1, 2], [1, 0], [-3], [3], [1, 3], [2, 0, 2], [-3]])

    def test_no_such_site(self):
        self.assertEqual(answers([5, 0]), [1, -3])
        self.assertEqual(answers([0, 0, 0, 5, 1, 5, 4294967295, 5, 0]), [1, 0, 1, -3, 1, -3, 1, 0])

    def test_it_leaves_all_as_it_was(self):
        sites = adds(ROUND_A_CIRCLE)
        cells = [cell(name) for name in range(8)]
        asked = told(sites + [beside(8)] + [beside(name) for name in range(8)] + cells + [add(3, 4), gone(0)])
        self.assertEqual(asked[8], [-3])
        self.assertEqual(asked[17:], told(sites + cells + [add(3, 4), gone(0)])[8:])
        self.assertLessEqual(len(joined(sites + cells)), 240)


if __name__ == "__main__":
    unittest.main()
