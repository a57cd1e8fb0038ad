import unittest
from fractions import Fraction

from nearestsites.land import answers
from tests.helper import add, adds, gone, last_told, nearest, told, within

WRONG_PLACES = [
    (100001, 1, 0, 1), (-100001, 1, 0, 1), (0, 1, 100001, 1), (0, 1, -100001, 1),
    (0, 0, 0, 1), (0, 1, 0, 0), (0, 1001, 0, 1), (0, 1, 0, 1001), (0, -1, 0, 1), (0, 1, 0, -1),
    (5, -1000, 5, 1), (4294967295, 1, 0, 1), (0, 4294967295, 0, 1), (0, 1, -4294967295, 1), (0, 1, 0, -4294967295),
]
OUTERMOST_PLACES = [
    (100000, 1, 0, 1), (-100000, 1, 0, 1), (0, 1, 100000, 1), (0, 1, -100000, 1), (0, 1000, 0, 1), (0, 1, 0, 1000),
]


class Nearest(unittest.TestCase):
    def test_the_whole_list(self):
        self.assertEqual(answers([0, 0, 0, 0, 10, 0, 2, 3, 1, 4, 1]), [1, 0, 1, 1, 4, 1, 25, 1, 0])

    def test_on_a_site_it_is_0_and_1(self):
        self.assertEqual(last_told([add(7, -8), add(9, 9), nearest(7, 1, -8, 1)]), [1, 0, 1, 0])
        self.assertEqual(last_told([add(7, -8), nearest(35, 5, -8000, 1000)]), [1, 0, 1, 0])

    def test_across_and_up_are_not_exchanged(self):
        self.assertEqual(last_told([add(10, 0), add(0, 10), nearest(9, 1, 1, 1)]), [1, 2, 1, 0])
        self.assertEqual(last_told([add(10, 0), add(0, 10), nearest(1, 2, 29, 3)]), [1, 13, 36, 1])

    def test_as_near_as_any_names_rising(self):
        calls = adds([(5, 0), (50, 50), (0, 5), (-5, 0), (0, -5), (3, 4)])
        self.assertEqual(last_told(calls + [nearest(0, 1, 0, 1)]), [5, 25, 1, 0, 2, 3, 4, 5])

    def test_as_near_as_any_after_some_went(self):
        calls = adds([(5, 0), (0, 5), (-5, 0)]) + [gone(0), gone(2), add(5, 0), add(-5, 0), nearest(0, 1, 0, 1)]
        self.assertEqual(last_told(calls), [3, 25, 1, 1, 3, 4])

    def test_8_as_near(self):
        places = [(3, 4), (4, 3), (-3, 4), (-4, 3), (3, -4), (4, -3), (-3, -4), (-4, -3)]
        self.assertEqual(last_told(adds(places) + [nearest(0, 1, 0, 1)]), [8, 25, 1, 0, 1, 2, 3, 4, 5, 6, 7])

    def test_a_hair_from_as_near(self):
        sites = [add(0, 0), add(1, 0)]
        self.assertEqual(last_told(sites + [nearest(499, 998, 0, 1)]), [2, 1, 4, 0, 1])
        self.assertEqual(last_told(sites + [nearest(499, 1000, 0, 1)]), [1, 249001, 1000000, 0])
        self.assertEqual(last_told(sites + [nearest(501, 1000, 0, 1)]), [1, 249001, 1000000, 1])

    def test_nothing_in_common(self):
        self.assertEqual(last_told([add(0, 0), nearest(2, 4, 3, 6)]), [1, 1, 2, 0])
        self.assertEqual(last_told([add(0, 0), nearest(3, 5, 4, 5)]), [1, 1, 1, 0])
        self.assertEqual(last_told([add(0, 0), nearest(1, 2, 1, 3)]), [1, 13, 36, 0])
        self.assertEqual(last_told([add(0, 0), nearest(0, 1000, 0, 999)]), [1, 0, 1, 0])

    def test_below_0(self):
        self.assertEqual(last_told([add(-1, -1), nearest(-3, 2, -1, 2)]), [1, 1, 2, 0])

    def test_outside_the_square(self):
        sites = [add(100, 100), add(-100, 100)]
        self.assertEqual(last_told(sites + [nearest(100000, 1, 100, 1)]), [1, 9980010000, 1, 0])
        self.assertEqual(last_told(sites + [nearest(0, 1, 100000, 1)]), [2, 9980020000, 1, 0, 1])
        self.assertEqual(last_told(sites + [nearest(-201, 2, 201, 2)]), [1, 1, 2, 1])

    def test_the_outermost_places(self):
        for place in OUTERMOST_PLACES:
            far = place[0] ** 2 + place[2] ** 2
            self.assertEqual(last_told([add(0, 0), nearest(*place)]), [1, far, 1, 0])

    def test_largest_above_and_below_together(self):
        far = Fraction(99999, 1000) ** 2 + Fraction(100000, 999) ** 2
        answer = last_told([add(0, 0), nearest(99999, 1000, -100000, 999)])
        self.assertEqual(answer, [1, far.numerator, far.denominator, 0])

    def test_wrong_places(self):
        for place in WRONG_PLACES:
            self.assertEqual(last_told([add(0, 0), nearest(*place)]), [-1], place)

    def test_no_sites(self):
        self.assertEqual(answers([2, 0, 1, 0, 1]), [1, -6])
        self.assertEqual(told([add(0, 0), gone(0), nearest(0, 1, 0, 1)]), [[0], [0], [-6]])

    def test_a_wrong_place_comes_before_no_sites(self):
        for place in WRONG_PLACES:
            self.assertEqual(answers([2, *place]), [1, -1], place)

    def test_refusals_leave_all_as_it_was(self):
        calls = [nearest(0, 1, 0, 1), add(1, 0), nearest(0, 0, 0, 0), nearest(0, 1, 0, 1), add(2, 0), gone(0)]
        self.assertEqual(told(calls), [[-6], [0], [-1], [1, 1, 1, 0], [1], [1]])


class Within(unittest.TestCase):
    def test_the_whole_list(self):
        self.assertEqual(answers([0, 0, 0, 0, 3, 4, 0, 9, 9, 3, 25, 0, 1, 0, 1]), [1, 0, 1, 1, 1, 2, 3, 2, 0, 1])

    def test_just_reached_and_just_missed(self):
        sites = [add(3, 4)]
        self.assertEqual(last_told(sites + [within(25, 0, 1, 0, 1)]), [1, 0])
        self.assertEqual(last_told(sites + [within(24, 0, 1, 0, 1)]), [0])
        self.assertEqual(last_told(sites + [within(26, 0, 1, 0, 1)]), [1, 0])

    def test_just_reached_and_just_missed_from_a_fraction(self):
        sites = [add(0, 0)]
        self.assertEqual(last_told(sites + [within(1, 3, 5, 4, 5)]), [1, 0])
        self.assertEqual(last_told(sites + [within(1, 601, 1000, 4, 5)]), [0])
        self.assertEqual(last_told(sites + [within(1, 599, 1000, 4, 5)]), [1, 0])
        self.assertEqual(last_told(sites + [within(0, 1, 1000, 0, 1)]), [0])
        self.assertEqual(last_told(sites + [within(1, 4, 5, 601, 1000)]), [0])

    def test_far_0(self):
        sites = [add(0, 0), add(1, 0)]
        self.assertEqual(last_told(sites + [within(0, 1, 1, 0, 1)]), [1, 1])
        self.assertEqual(last_told(sites + [within(0, 7, 7, 0, 9)]), [1, 1])
        self.assertEqual(last_told(sites + [within(0, 1, 2, 0, 1)]), [0])

    def test_the_largest_far(self):
        sites = [add(0, 0), add(1, 0)]
        self.assertEqual(last_told(sites + [within(4294967295, 65535, 1, 0, 1)]), [2, 0, 1])
        self.assertEqual(last_told(sites + [within(4294967295, 65536, 1, 0, 1)]), [1, 1])
        self.assertEqual(last_told(sites + [within(4294967295, 100000, 1, 100000, 1)]), [0])

    def test_far_is_squared(self):
        self.assertEqual(last_told([add(10, 0), within(10, 0, 1, 0, 1)]), [0])

    def test_names_rising_after_some_went(self):
        calls = adds([(1, 0), (2, 0), (3, 0), (50, 0)]) + [gone(1), add(0, 1), add(2, 0), within(9, 0, 1, 0, 1)]
        self.assertEqual(last_told(calls), [4, 0, 2, 4, 5])

    def test_all_8(self):
        calls = adds([(across, across) for across in range(8)]) + [within(98, 0, 1, 0, 1), within(97, 0, 1, 0, 1)]
        self.assertEqual(told(calls)[8:], [[8, 0, 1, 2, 3, 4, 5, 6, 7], [7, 0, 1, 2, 3, 4, 5, 6]])

    def test_outside_the_square(self):
        sites = [add(100, 0), add(-100, 0)]
        self.assertEqual(last_told(sites + [within(10000, 200, 1, 0, 1)]), [1, 0])
        self.assertEqual(last_told(sites + [within(9999, 200, 1, 0, 1)]), [0])
        self.assertEqual(last_told(sites + [within(50000, 0, 1, -200, 1)]), [2, 0, 1])

    def test_the_outermost_places(self):
        for place in OUTERMOST_PLACES:
            reached = place[0] == 0 and place[2] == 0
            self.assertEqual(last_told([add(0, 0), within(4294967295, *place)]), [1, 0] if reached else [0])

    def test_no_sites_is_no_refusal(self):
        self.assertEqual(answers([3, 4294967295, 0, 1, 0, 1]), [1, 0])

    def test_wrong_places(self):
        for place in WRONG_PLACES:
            self.assertEqual(last_told([add(0, 0), within(4294967295, *place)]), [-1], place)
            self.assertEqual(answers([3, 0, *place]), [1, -1], place)

    def test_refusals_leave_all_as_it_was(self):
        calls = [add(1, 0), within(9, 0, 0, 0, 1), within(9, 0, 1, 0, 1), add(1, 0), add(2, 0)]
        self.assertEqual(told(calls), [[0], [-1], [1, 0], [-4], [1]])


if __name__ == "__main__":
    unittest.main()
