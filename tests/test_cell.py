import unittest

from nearestsites.land import answers
from tests.helper import WHOLE_SQUARE, add, adds, cell, gone, last_told, told


def corners(*places):
    """Whole places as a cell's answer tells them."""
    return [number for across, up in places for number in (across, 1, up, 1)]


class Cell(unittest.TestCase):
    def test_one_site_has_the_whole_square(self):
        self.assertEqual(answers([0, 3, 4, 4, 0]), [1, 0, 19] + WHOLE_SQUARE)
        for across, up in [(-100, -100), (100, 100), (100, 0), (0, 0)]:
            self.assertEqual(last_told([add(across, up), cell(0)]), WHOLE_SQUARE)

    def test_two_beside_one_another(self):
        answer = told(adds([(-50, 0), (50, 0)]) + [cell(0), cell(1)])[2:]
        self.assertEqual(answer[0], [4, 20000, 1] + corners((-100, -100), (0, -100), (0, 100), (-100, 100)))
        self.assertEqual(answer[1], [4, 20000, 1] + corners((0, -100), (100, -100), (100, 100), (0, 100)))

    def test_two_above_one_another(self):
        answer = told(adds([(0, 60), (0, -40)]) + [cell(0), cell(1)])[2:]
        self.assertEqual(answer[0], [4, 18000, 1] + corners((-100, 10), (100, 10), (100, 100), (-100, 100)))
        self.assertEqual(answer[1], [4, 22000, 1] + corners((-100, -100), (100, -100), (100, 10), (-100, 10)))

    def test_a_line_through_the_corners_of_the_square(self):
        answer = told(adds([(-100, -100), (100, 100)]) + [cell(0), cell(1)])[2:]
        self.assertEqual(answer[0], [3, 20000, 1] + corners((-100, -100), (100, -100), (-100, 100)))
        self.assertEqual(answer[1], [3, 20000, 1] + corners((-100, 100), (100, -100), (100, 100)))

    def test_the_other_line_through_the_corners_of_the_square(self):
        answer = told(adds([(-1, 1), (1, -1)]) + [cell(0), cell(1)])[2:]
        self.assertEqual(answer[0], [3, 20000, 1] + corners((-100, -100), (100, 100), (-100, 100)))
        self.assertEqual(answer[1], [3, 20000, 1] + corners((-100, -100), (100, -100), (100, 100)))

    def test_fractions(self):
        answer = told(adds([(0, 0), (1, 2)]) + [cell(0), cell(1)])[2:]
        self.assertEqual(
            answer[0], [4, 20250, 1, -100, 1, -100, 1, 100, 1, -100, 1, 100, 1, -195, 4, -100, 1, 205, 4])
        self.assertEqual(
            answer[1], [4, 19750, 1, -100, 1, 205, 4, 100, 1, -195, 4, 100, 1, 100, 1, -100, 1, 100, 1])

    def test_an_area_that_is_a_fraction(self):
        # What is cut off at the lower left is 841/42 wide and 841/40 high.
        answer = told(adds([(-100, -100), (-79, -80)]) + [cell(0), cell(1)])[2:]
        self.assertEqual(answer[0], [3, 707281, 3360, -100, 1, -100, 1, -3359, 42, -100, 1, -100, 1, -3159, 40])
        self.assertEqual(answer[1][:3], [5, 133692719, 3360])

    def test_a_thin_cell_at_the_side(self):
        answer = last_told(adds([(100, 100), (99, 100)]) + [cell(0)])
        self.assertEqual(answer, [4, 100, 1, 199, 2, -100, 1, 100, 1, -100, 1, 100, 1, 100, 1, 199, 2, 100, 1])

    def test_the_first_is_furthest_left_though_another_is_lower(self):
        answer = last_told(adds([(50, 0), (-50, -100)]) + [cell(0)])
        round_it = corners((-100, 50), (50, -100), (100, -100), (100, 100), (-100, 100))
        self.assertEqual(answer, [5, 28750, 1] + round_it)

    def test_four_meet_in_one_place(self):
        answer = told(adds([(-10, -10), (10, -10), (10, 10), (-10, 10)]) + [cell(name) for name in range(4)])[4:]
        self.assertEqual(answer[0], [4, 10000, 1] + corners((-100, -100), (0, -100), (0, 0), (-100, 0)))
        self.assertEqual(answer[1], [4, 10000, 1] + corners((0, -100), (100, -100), (100, 0), (0, 0)))
        self.assertEqual(answer[2], [4, 10000, 1] + corners((0, 0), (100, 0), (100, 100), (0, 100)))
        self.assertEqual(answer[3], [4, 10000, 1] + corners((-100, 0), (0, 0), (0, 100), (-100, 100)))

    def test_lines_that_only_touch_a_corner_make_none(self):
        straight = [(20, 0), (-20, 0), (0, 20), (0, -20)]
        slanting = [(20, 20), (-20, 20), (20, -20)]
        square = [4, 400, 1] + corners((-10, -10), (10, -10), (10, 10), (-10, 10))
        for others in (straight + slanting, slanting + straight, straight):
            self.assertEqual(last_told(adds([(0, 0)] + others) + [cell(0)]), square)

    def test_eight_meet_in_one_place(self):
        places = [(3, 4), (4, 3), (-3, 4), (-4, 3), (3, -4), (4, -3), (-3, -4), (-4, -3)]
        answer = told(adds(places) + [cell(name) for name in range(8)])[8:]
        self.assertEqual(answer[0], [3, 5000, 1] + corners((0, 0), (100, 100), (0, 100)))
        self.assertEqual(answer[1], [3, 5000, 1] + corners((0, 0), (100, 0), (100, 100)))
        self.assertEqual(answer[6], [3, 5000, 1] + corners((-100, -100), (0, -100), (0, 0)))
        self.assertEqual(answer[7], [3, 5000, 1] + corners((-100, -100), (0, 0), (-100, 0)))

    def test_lines_that_do_not_reach_the_cell(self):
        places = [(-90 + 20 * k, 0) for k in range(8)]
        answer = told(adds(places) + [cell(0), cell(4), cell(7)])[8:]
        self.assertEqual(answer[0], [4, 4000, 1] + corners((-100, -100), (-80, -100), (-80, 100), (-100, 100)))
        self.assertEqual(answer[1], [4, 4000, 1] + corners((-20, -100), (0, -100), (0, 100), (-20, 100)))
        self.assertEqual(answer[2], [4, 12000, 1] + corners((40, -100), (100, -100), (100, 100), (40, 100)))

    def test_a_cell_grows_when_another_site_goes(self):
        calls = adds([(-50, 0), (50, 0)]) + [gone(0), cell(1), add(50, 100), cell(2), cell(1), cell(0)]
        answer = told(calls)[3:]
        self.assertEqual(answer[0], WHOLE_SQUARE)
        self.assertEqual(answer[2], [4, 10000, 1] + corners((-100, 50), (100, 50), (100, 100), (-100, 100)))
        self.assertEqual(answer[3], [4, 30000, 1] + corners((-100, -100), (100, -100), (100, 50), (-100, 50)))
        self.assertEqual(answer[4], [-3])

    def test_no_such_site(self):
        self.assertEqual(answers([4, 0]), [1, -3])
        self.assertEqual(answers([0, 0, 0, 4, 1, 4, 4294967295]), [1, 0, 1, -3, 1, -3])

    def test_a_refused_cell_leaves_all_as_it_was(self):
        calls = [add(0, 0), cell(1), cell(0), add(0, 0), add(1, 1)]
        self.assertEqual(told(calls), [[0], [-3], WHOLE_SQUARE, [-4], [1]])


if __name__ == "__main__":
    unittest.main()
