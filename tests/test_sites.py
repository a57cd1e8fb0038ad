import unittest

from nearestsites.land import answers
from tests.helper import SITES, add, adds, gone, last_told, told


class Sites(unittest.TestCase):
    def test_none(self):
        self.assertEqual(answers([9]), [1, 0])

    def test_the_whole_list(self):
        self.assertEqual(answers([0, 3, -4, 9, 0, -5, 6, 9]), [1, 0, 4, 1, 0, 3, -4, 1, 1, 7, 2, 0, 3, -4, 1, -5, 6])

    def test_8_names_rising(self):
        places = [(100, 100), (-100, -100), (0, 0), (5, -5), (-5, 5), (99, -99), (1, 0), (0, 1)]
        expected = [8] + [number for name in range(8) for number in (name, *places[name])]
        self.assertEqual(last_told(adds(places) + [SITES]), expected)

    def test_sites_that_come_and_go(self):
        calls = adds([(1, 1), (2, 2), (3, 3)]) + [gone(1), SITES, add(2, 2), SITES, gone(0), gone(2), gone(3), SITES]
        self.assertEqual(told(calls)[3:], [
            [2], [2, 0, 1, 1, 2, 3, 3], [3], [3, 0, 1, 1, 2, 3, 3, 3, 2, 2], [2], [1], [0], [0]])

    def test_refused_calls_leave_all_as_it_was(self):
        eight = adds([(k, -k) for k in range(8)])
        before = last_told(eight + [SITES])
        refused = [add(101, 0), add(0, 0), add(50, 50), gone(8), [4, 8], [5, 8], [2, 0, 0, 0, 0], [3, 9, 0, 0, 0, 1]]
        found = told(eight + refused + [SITES])
        self.assertEqual(found[8:], [[-1], [-4], [-2], [-3], [-3], [-3], [-1], [-1], before])


if __name__ == "__main__":
    unittest.main()
