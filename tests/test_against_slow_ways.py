"""Many lands, the same at every run, against the slow second way of the helper."""
import random
import unittest
from fractions import Fraction

from tests.helper import add, adds, cell, gone, last_told, nearest, slow_cell, slow_nearest, slow_within, told, within


def lands(seed, count):
    """Small reaches make many places where several lines meet; large ones make long fractions."""
    rng = random.Random(seed)
    for k in range(count):
        reach = (1, 2, 3, 5, 20, 100)[k % 6]
        middle = (0, 100 - reach, reach - 100)[k // 6 % 3]
        wanted = rng.randint(1, 8)
        places = []
        while len(places) < wanted:
            place = (middle + rng.randint(-reach, reach), rng.randint(-reach, reach))
            if place not in places:
                places.append(place)
        yield rng, places


def any_place(rng, places):
    """Often one that two sites are as near to."""
    if rng.random() < 0.5:
        one, other = rng.choice(places), rng.choice(places)
        scale = rng.randint(1, 400)
        return ((one[0] + other[0]) * scale, 2 * scale, (one[1] + other[1]) * scale, 2 * scale)
    limit = rng.choice((10, 1000, 100000))
    return (rng.randint(-limit, limit), rng.randint(1, 1000), rng.randint(-limit, limit), rng.randint(1, 1000))


class AgainstSlowWays(unittest.TestCase):
    def test_cells(self):
        for rng, places in lands(1, 240):
            sites = dict(enumerate(places))
            found = told(adds(places) + [cell(name) for name in sites])[len(places):]
            self.assertEqual(found, [slow_cell(sites, name) for name in sites], places)

    def test_cells_fill_the_square(self):
        for rng, places in lands(2, 240):
            found = told(adds(places) + [cell(name) for name in range(len(places))])[len(places):]
            self.assertEqual(sum(Fraction(answer[1], answer[2]) for answer in found), 40000, places)

    def test_no_site_is_nearer_to_a_corner(self):
        for rng, places in lands(3, 120):
            answer = last_told(adds(places) + [cell(0)])
            for at in range(3, len(answer), 4):
                x, y = Fraction(answer[at], answer[at + 1]), Fraction(answer[at + 2], answer[at + 3])
                fars = [(x - site[0]) ** 2 + (y - site[1]) ** 2 for site in places]
                self.assertEqual(min(fars), fars[0], places)

    def test_nearest_and_within(self):
        for rng, places in lands(4, 600):
            sites = dict(enumerate(places))
            a, b, c, d = any_place(rng, places)
            place = (Fraction(a, b), Fraction(c, d))
            some_far = slow_nearest({0: rng.choice(places)}, place)[1:3]
            far = min(some_far[0] // some_far[1] + rng.randint(0, 1), 4294967295)
            found = told(adds(places) + [nearest(a, b, c, d), within(far, a, b, c, d)])[len(places):]
            self.assertEqual(found, [slow_nearest(sites, place), slow_within(sites, far, place)], places)

    def test_coming_and_going(self):
        for rng, places in lands(5, 120):
            sites = dict(enumerate(places))
            calls = adds(places)
            for name in rng.sample(sorted(sites), rng.randint(0, len(places) - 1)):
                calls.append(gone(name))
                sites.pop(name)
            if (50, 1) not in places and len(sites) < 8:
                calls.append(add(50, 1))
                sites[len(places)] = (50, 1)
            asked = rng.choice(sorted(sites))
            found = told(calls + [cell(asked), nearest(50, 1, 1, 1)])[-2:]
            self.assertEqual(found, [slow_cell(sites, asked), slow_nearest(sites, (50, 1))], places)


if __name__ == "__main__":
    unittest.main()
