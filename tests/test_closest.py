import unittest

from nearestsites.land import answers
from tests.helper import CLOSEST, SITES, add, adds, gone, last_told, told


def closest_of(places):
    return last_told(adds(places) + [CLOSEST])


class Closest(unittest.TestCase):
    def test_the_whole_list(self):
        self.assertEqual(answers([0, 0, 0, 0, 3, 4, 7]), [1, 0, 1, 1, 4, 0, 1, 25, 1])

    def test_across_and_up_count_alike(self):
        self.assertEqual(closest_of([(0, 0), (10, 0), (0, 9)]), [0, 2, 81, 1])
        self.assertEqual(closest_of([(0, 0), (0, 10), (9, 0)]), [0, 2, 81, 1])
        self.assertEqual(closest_of([(0, 0), (5, 0), (4, 4)]), [1, 2, 17, 1])

    def test_as_far_as_can_be(self):
        self.assertEqual(closest_of([(-100, -100), (100, 100)]), [0, 1, 80000, 1])
        self.assertEqual(closest_of([(100, -100), (-100, 100)]), [0, 1, 80000, 1])

    def test_the_last_two(self):
        places = [(-100, -100), (-60, -70), (-20, -45), (20, 1), (60, 40), (99, 99), (100, -100), (100, -99)]
        self.assertEqual(closest_of(places), [6, 7, 1, 1])

    def test_of_as_close_the_lower_first_name(self):
        self.assertEqual(closest_of([(0, 0), (50, 0), (50, 50), (0, 1), (50, 49)]), [0, 3, 1, 1])
        self.assertEqual(closest_of([(0, 0), (50, 0), (50, 50), (50, 51), (50, 1)]), [1, 4, 1, 1])

    def test_of_as_close_the_lower_second_name(self):
        self.assertEqual(closest_of([(0, 0), (1, 0), (-1, 0)]), [0, 1, 1, 1])
        self.assertEqual(closest_of([(0, 0), (90, 90), (0, 5), (5, 0), (0, -5)]), [0, 2, 25, 1])

    def test_all_sides_as_long(self):
        self.assertEqual(closest_of([(0, 0), (10, 10), (10, 0), (0, 10)]), [0, 2, 100, 1])

    def test_8_in_a_row(self):
        self.assertEqual(closest_of([(5 * k, 0) for k in range(8)]), [0, 1, 25, 1])
        self.assertEqual(closest_of([(k * k, 0) for k in range(7, -1, -1)]), [6, 7, 1, 1])

    def test_sites_that_come_and_go(self):
        calls = adds([(0, 0), (1, 0), (10, 0), (12, 0)]) + [
            CLOSEST, gone(0), CLOSEST, add(0, 0), CLOSEST, gone(1), gone(3), CLOSEST, gone(4), CLOSEST]
        self.assertEqual(told(calls)[4:], [
            [0, 1, 1, 1], [3], [2, 3, 4, 1], [4], [1, 4, 1, 1], [3], [2], [2, 4, 100, 1], [1], [-6]])

    def test_fewer_than_two(self):
        self.assertEqual(answers([7]), [1, -6])
        self.assertEqual(answers([0, 5, 5, 7]), [1, 0, 1, -6])

    def test_a_refusal_leaves_all_as_it_was(self):
        self.assertEqual(told([CLOSEST, add(5, 5), CLOSEST, SITES, add(6, 5), CLOSEST]), [
            [-6], [0], [-6], [1, 0, 5, 5], [1], [0, 1, 1, 1]])


if __name__ == "__main__":
    unittest.main()
