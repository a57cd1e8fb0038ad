import unittest

from nearestsites.land import answers
from tests.helper import LONELIEST, add, adds, gone, last_told, nearest, told


def loneliest_of(places):
    return last_told(adds(places) + [LONELIEST])


class Loneliest(unittest.TestCase):
    def test_the_whole_list(self):
        self.assertEqual(answers([0, 0, 0, 6]), [1, 0, 6, -100, 1, -100, 1, 20000, 1])

    def test_one_site_off_the_middle(self):
        self.assertEqual(loneliest_of([(-1, -1)]), [100, 1, 100, 1, 20402, 1])
        self.assertEqual(loneliest_of([(1, -1)]), [-100, 1, 100, 1, 20402, 1])
        self.assertEqual(loneliest_of([(-1, 1)]), [100, 1, -100, 1, 20402, 1])
        self.assertEqual(loneliest_of([(1, 1)]), [-100, 1, -100, 1, 20402, 1])

    def test_one_site_with_two_places_as_lonely(self):
        self.assertEqual(loneliest_of([(1, 0)]), [-100, 1, -100, 1, 20201, 1])
        self.assertEqual(loneliest_of([(-1, 0)]), [100, 1, -100, 1, 20201, 1])
        self.assertEqual(loneliest_of([(0, 1)]), [-100, 1, -100, 1, 20201, 1])
        self.assertEqual(loneliest_of([(0, -1)]), [-100, 1, 100, 1, 20201, 1])

    def test_one_site_in_each_corner(self):
        for across in (-100, 100):
            for up in (-100, 100):
                self.assertEqual(loneliest_of([(across, up)]), [-across, 1, -up, 1, 80000, 1])

    def test_one_site_on_each_side(self):
        self.assertEqual(loneliest_of([(-100, 0)]), [100, 1, -100, 1, 50000, 1])
        self.assertEqual(loneliest_of([(100, 0)]), [-100, 1, -100, 1, 50000, 1])
        self.assertEqual(loneliest_of([(0, -100)]), [-100, 1, 100, 1, 50000, 1])
        self.assertEqual(loneliest_of([(0, 100)]), [-100, 1, -100, 1, 50000, 1])

    def test_furthest_left_comes_before_lowest(self):
        for places in ([(-100, -100), (100, 100)], [(100, 100), (-100, -100)], [(9, 9), (-9, -9)]):
            far = (100 + places[0][0]) ** 2 + (100 - places[0][0]) ** 2
            self.assertEqual(loneliest_of(places), [-100, 1, 100, 1, far, 1])

    def test_of_as_far_left_the_lowest(self):
        for places in ([(-100, 0), (100, 0)], [(100, 0), (-100, 0)]):
            self.assertEqual(loneliest_of(places), [0, 1, -100, 1, 20000, 1])

    def test_furthest_left_of_several_on_the_lower_side(self):
        places = [(-100, 100), (-100, -100), (0, -100), (100, -100), (100, 100), (0, 100)]
        self.assertEqual(loneliest_of(places), [-50, 1, 0, 1, 12500, 1])

    def test_sites_in_all_corners(self):
        corners = [(-100, -100), (100, -100), (100, 100), (-100, 100)]
        self.assertEqual(loneliest_of(corners), [0, 1, 0, 1, 20000, 1])
        self.assertEqual(loneliest_of(corners + [(0, 0)]), [-100, 1, 0, 1, 10000, 1])

    def test_8_on_the_sides_and_corners(self):
        places = [(-100, -100), (0, -100), (100, -100), (100, 0), (100, 100), (0, 100), (-100, 100), (-100, 0)]
        self.assertEqual(loneliest_of(places), [0, 1, 0, 1, 10000, 1])

    def test_as_lonely_in_fractions(self):
        # Up and down the square the row's lines end as far from two sites each.
        self.assertEqual(loneliest_of([(-67, 0), (0, 0), (67, 0)]), [-67, 2, -100, 1, 44489, 4])

    def test_within_the_square_in_fractions(self):
        # By likeness up is 0, and 398 times across is 99 * 99 - 20000.
        places = [(-100, -100), (-100, 100), (99, 0)]
        self.assertEqual(loneliest_of(places), [-10199, 398, 0, 1, 49601 ** 2, 398 ** 2])

    def test_two_as_lonely_within_the_square_in_fractions(self):
        # The other one is at 1 by 200 across.
        places = [(-100, -100), (100, -100), (-100, 1), (100, 1), (-100, 100), (100, 100), (0, 100), (0, -100)]
        self.assertEqual(loneliest_of(places), [-1, 200, 0, 1, 400000001, 40000])

    def test_below_a_fraction_is_above_0_and_nothing_is_in_common(self):
        self.assertEqual(loneliest_of([(100, 100), (-100, 98)])[1::2], [100, 1, 10000])

    def test_a_hair_lonelier(self):
        self.assertEqual(loneliest_of([(-99, 0), (100, 0)])[:4], [1, 2, -100, 1])
        self.assertEqual(loneliest_of([(-100, 1), (100, 0)])[:4], [-201, 400, -100, 1])
        self.assertEqual(loneliest_of([(-100, -1), (100, 0)])[:4], [-201, 400, 100, 1])

    def test_the_nearest_sites_are_as_far_as_told(self):
        places = [(13, -58), (-77, 12), (95, 95), (-6, 60)]
        lonely = loneliest_of(places)
        self.assertEqual(lonely[1], 1)
        self.assertEqual(last_told(adds(places) + [nearest(*lonely[:4])])[1:3], lonely[4:])

    def test_sites_that_come_and_go(self):
        calls = [
            add(0, 0), LONELIEST, add(-99, -99), LONELIEST, gone(0), LONELIEST, gone(1), LONELIEST,
            add(1, 0), LONELIEST]
        self.assertEqual(told(calls)[1::2], [
            [-100, 1, -100, 1, 20000, 1], [-100, 1, 100, 1, 20000, 1], [100, 1, 100, 1, 79202, 1], [-6],
            [-100, 1, -100, 1, 20201, 1]])

    def test_no_sites(self):
        self.assertEqual(answers([6]), [1, -6])
        self.assertEqual(told([LONELIEST, add(0, 0), gone(0), LONELIEST, add(0, 0)]), [[-6], [0], [0], [-6], [1]])


if __name__ == "__main__":
    unittest.main()
