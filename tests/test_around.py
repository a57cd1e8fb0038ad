import itertools
import unittest

from nearestsites.land import answers
from tests.helper import AROUND, add, adds, gone, last_told, told

ON_ONE_CIRCLE = [(3, 4), (4, 3), (-3, 4), (-4, 3), (3, -4), (4, -3), (-3, -4), (-4, -3)]


class Around(unittest.TestCase):
    def check(self, places, expected):
        """In whatever order the sites come."""
        orders = itertools.permutations(places) if len(places) < 5 else (places, places[::-1], places[3:] + places[:3])
        for order in orders:
            self.assertEqual(last_told(adds(order) + [AROUND]), expected, order)

    def test_the_whole_list(self):
        self.assertEqual(answers([0, 0, 0, 0, 3, 4, 8]), [1, 0, 1, 1, 6, 3, 2, 2, 1, 25, 4])

    def test_one_site(self):
        for across, up in [(0, 0), (-7, 30), (100, -100), (-100, 100)]:
            self.check([(across, up)], [across, 1, up, 1, 0, 1])

    def test_two(self):
        self.check([(-100, -100), (100, 100)], [0, 1, 0, 1, 20000, 1])
        self.check([(-4, -7), (-3, -7)], [-7, 2, -7, 1, 1, 4])
        self.check([(-100, 99), (-100, 100)], [-100, 1, 199, 2, 1, 4])
        self.check([(2, 0), (5, 9)], [7, 2, 9, 2, 45, 2])

    def test_on_one_line(self):
        self.check([(0, 0), (1, 0), (10, 0)], [5, 1, 0, 1, 25, 1])
        self.check([(4, -1), (4, 90), (4, 91)], [4, 1, 45, 1, 2116, 1])
        self.check([(0, 0), (1, 2), (2, 4), (3, 6)], [3, 2, 3, 1, 45, 4])
        self.check([(-90 + 20 * k, 90 - 20 * k) for k in range(8)], [-20, 1, 20, 1, 9800, 1])

    def test_a_blunt_triangle(self):
        self.check([(0, 0), (10, 0), (5, 1)], [5, 1, 0, 1, 25, 1])
        self.check([(0, 0), (9, 0), (1, -2)], [9, 2, 0, 1, 81, 4])
        self.check([(0, 0), (10, 10), (6, 4)], [5, 1, 5, 1, 50, 1])

    def test_a_square_corner(self):
        self.check([(0, 0), (6, 0), (0, 8)], [3, 1, 4, 1, 25, 1])
        self.check([(-5, 0), (5, 0), (3, 4)], [0, 1, 0, 1, 25, 1])

    def test_a_sharp_triangle(self):
        self.check([(0, 0), (4, 0), (2, 3)], [2, 1, 5, 6, 169, 36])
        self.check([(0, 0), (6, 0), (3, 9)], [3, 1, 4, 1, 25, 1])
        self.check([(-3, 0), (3, 0), (-1, -4)], [0, 1, -1, 1, 10, 1])
        self.check([(0, 0), (5, 1), (1, 6)], [119, 58, 159, 58, 19721, 1682])

    def test_hardly_blunt_and_hardly_sharp(self):
        self.check([(-100, 0), (100, 0), (0, 99)], [0, 1, 0, 1, 10000, 1])
        self.check([(-99, 0), (99, 0), (0, 100)], [0, 1, 199, 200, 19801 ** 2, 40000])

    def test_several_on_one_circle(self):
        self.check(ON_ONE_CIRCLE, [0, 1, 0, 1, 25, 1])
        self.check([(0, 0), (10, 0), (10, 10), (0, 10)], [5, 1, 5, 1, 50, 1])
        self.check([(5, 0), (-3, 4), (-3, -4), (-4, 3), (-4, -3)], [0, 1, 0, 1, 25, 1])

    def test_several_on_a_circle_that_is_not_the_least(self):
        self.check([(3, 4), (4, 3), (5, 0), (0, 5)], [5, 2, 5, 2, 25, 2])

    def test_some_within(self):
        self.check([(0, 0), (6, 0), (3, 9), (3, 4), (2, 2), (4, 3), (3, -1), (0, 1)], [3, 1, 4, 1, 25, 1])

    def test_the_corners_of_the_square(self):
        corners = [(-100, -100), (100, -100), (100, 100), (-100, 100)]
        for places in (corners, corners[:3], corners + [(0, 0), (100, 0), (-100, 7)]):
            self.check(places, [0, 1, 0, 1, 20000, 1])

    def test_sites_that_come_and_go(self):
        calls = [add(0, 0), AROUND, add(10, 0), AROUND, add(5, 50), gone(0), AROUND, gone(1), AROUND, gone(2), AROUND]
        found = told(calls)
        self.assertEqual(found[1], [0, 1, 0, 1, 0, 1])
        self.assertEqual(found[3], [5, 1, 0, 1, 25, 1])
        self.assertEqual(found[6], [15, 2, 25, 1, 2525, 4])
        self.assertEqual(found[8], [5, 1, 50, 1, 0, 1])
        self.assertEqual(found[10], [-6])

    def test_no_sites(self):
        self.assertEqual(answers([8]), [1, -6])
        self.assertEqual(told([AROUND, add(0, 0), gone(0), AROUND, add(2, 1), AROUND]), [
            [-6], [0], [0], [-6], [1], [2, 1, 1, 1, 0, 1]])


if __name__ == "__main__":
    unittest.main()
