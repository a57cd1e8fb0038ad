"""Many lands, the same at every run, against the slow second way of the helper."""
import random
import unittest
from fractions import Fraction

from tests.helper import (
    AROUND, CLOSEST, LONELIEST, SITES, add, adds, beside, cell, far_of, gone, is_least_circle, last_told, nearest,
    slow_beside, slow_cell, slow_closest, slow_loneliest, slow_nearest, slow_sites, slow_within, told, within)


def lands(seed, count):
    """Small reaches make many places where several lines meet; large ones make long fractions."""
    rng = random.Random(seed)
    for k in range(count):
        reach = (1, 2, 3, 5, 20, 100)[k % 6]
        middle = (0, 100 - reach, reach - 100)[k // 6 % 3]
        wanted = rng.randint(1, 8)
        places = []
        while len(places) < wanted:
            place = (middle + rng.randint(-reach, reach), rng.randint(-reach, reach))
            if place not in places:
                places.append(place)
        yield rng, places


def any_place(rng, places):
    """Often one that two sites are as near to."""
    if rng.random() < 0.5:
        one, other = rng.choice(places), rng.choice(places)
        scale = rng.randint(1, 400)
        return ((one[0] + other[0]) * scale, 2 * scale, (one[1] + other[1]) * scale, 2 * scale)
    limit = rng.choice((10, 1000, 100000))
    return (rng.randint(-limit, limit), rng.randint(1, 1000), rng.randint(-limit, limit), rng.randint(1, 1000))


def any_call(rng, made):
    """One of the ten calls, sometimes a wrong one; made: how many sites there were till now, about."""
    name = rng.randint(0, made + 1)
    around = [rng.randint(-6, 6) * 20, rng.randint(0, 6), rng.randint(-6, 6) * 20, rng.randint(1, 6)]
    return rng.choice((
        add(rng.randint(-6, 6) * 20, rng.randint(-6, 6) * 20), add(rng.randint(-3, 3), rng.randint(-3, 3)),
        add(rng.choice((-100, 0, 100, 101)), rng.choice((-100, 0, 100))), gone(name), nearest(*around),
        within(rng.choice((0, 400, 10000)), *around), cell(name), beside(name), LONELIEST, CLOSEST, AROUND, SITES))


class SlowLand:
    """What a land answers, call by call, by the slow ways; around is judged, not told."""

    def __init__(self):
        self.sites = {}
        self.made = 0

    def check(self, call, answer):
        if call == AROUND and self.sites:
            return is_least_circle(self.sites, answer)
        return answer == self.expected(call[0], call[1:])

    def expected(self, call, given):
        if call == 0:
            return self.add(tuple(given))
        if call in (1, 4, 5) and given[0] not in self.sites:
            return [-3]
        if call == 1:
            self.sites.pop(given[0])
            return [len(self.sites)]
        if call in (2, 3):
            return self.from_a_place(given)
        if call == 4:
            return slow_cell(self.sites, given[0])
        if call == 5:
            return slow_beside(self.sites, given[0])
        if call == 9:
            return slow_sites(self.sites)
        if len(self.sites) < (2 if call == 7 else 1):
            return [-6]
        return slow_loneliest(self.sites) if call == 6 else slow_closest(self.sites)

    def add(self, place):
        if not all(-100 <= number <= 100 for number in place):
            return [-1]
        if place in self.sites.values():
            return [-4]
        if len(self.sites) == 8:
            return [-2]
        self.sites[self.made] = place
        self.made += 1
        return [self.made - 1]

    def from_a_place(self, given):
        a, b, c, d = given[-4:]
        if not (1 <= b <= 1000 and 1 <= d <= 1000):
            return [-1]
        place = (Fraction(a, b), Fraction(c, d))
        if len(given) == 5:
            return slow_within(self.sites, given[0], place)
        return slow_nearest(self.sites, place) if self.sites else [-6]


class AgainstSlowWays(unittest.TestCase):
    def test_cells(self):
        for rng, places in lands(1, 240):
            sites = dict(enumerate(places))
            found = told(adds(places) + [cell(name) for name in sites])[len(places):]
            self.assertEqual(found, [slow_cell(sites, name) for name in sites], places)

    def test_cells_fill_the_square(self):
        for rng, places in lands(2, 240):
            found = told(adds(places) + [cell(name) for name in range(len(places))])[len(places):]
            self.assertEqual(sum(Fraction(answer[1], answer[2]) for answer in found), 40000, places)

    def test_no_site_is_nearer_to_a_corner(self):
        for rng, places in lands(3, 120):
            answer = last_told(adds(places) + [cell(0)])
            for at in range(3, len(answer), 4):
                x, y = Fraction(answer[at], answer[at + 1]), Fraction(answer[at + 2], answer[at + 3])
                fars = [(x - site[0]) ** 2 + (y - site[1]) ** 2 for site in places]
                self.assertEqual(min(fars), fars[0], places)

    def test_nearest_and_within(self):
        for rng, places in lands(4, 600):
            sites = dict(enumerate(places))
            a, b, c, d = any_place(rng, places)
            place = (Fraction(a, b), Fraction(c, d))
            some_far = slow_nearest({0: rng.choice(places)}, place)[1:3]
            far = min(some_far[0] // some_far[1] + rng.randint(0, 1), 4294967295)
            found = told(adds(places) + [nearest(a, b, c, d), within(far, a, b, c, d)])[len(places):]
            self.assertEqual(found, [slow_nearest(sites, place), slow_within(sites, far, place)], places)

    def test_beside(self):
        for rng, places in lands(6, 90):
            sites = dict(enumerate(places))
            found = told(adds(places) + [beside(name) for name in sites])[len(places):]
            self.assertEqual(found, [slow_beside(sites, name) for name in sites], places)

    def test_loneliest(self):
        for rng, places in lands(7, 180):
            answer = last_told(adds(places) + [LONELIEST])
            self.assertEqual(answer, slow_loneliest(dict(enumerate(places))), places)

    def test_no_place_is_lonelier(self):
        for rng, places in lands(8, 180):
            answer = last_told(adds(places) + [LONELIEST])
            far = Fraction(answer[4], answer[5])
            for across in range(-100, 101, 10):
                for up in range(-100, 101, 10):
                    self.assertLessEqual(min(far_of(site, (across, up)) for site in places), far, places)

    def test_closest_and_sites(self):
        for rng, places in lands(9, 600):
            sites = dict(enumerate(places))
            found = told(adds(places) + [SITES, CLOSEST])[len(places):]
            self.assertEqual(found, [slow_sites(sites), slow_closest(sites) if len(sites) > 1 else [-6]], places)

    def test_around(self):
        for rng, places in lands(10, 600):
            answer = last_told(adds(places) + [AROUND])
            self.assertTrue(is_least_circle(dict(enumerate(places)), answer), (places, answer))

    def test_all_calls_in_any_order(self):
        rng = random.Random(11)
        for k in range(120):
            land = SlowLand()
            calls = adds([(rng.randint(-5, 5) * 20, rng.randint(-5, 5) * 20) for m in range(k % 10)])
            while len(calls) < 40:
                calls.append(any_call(rng, len(calls) // 3))
            for call, answer in zip(calls, told(calls)):
                self.assertTrue(land.check(call, answer), (calls, call, answer))

    def test_coming_and_going(self):
        for rng, places in lands(5, 120):
            sites = dict(enumerate(places))
            calls = adds(places)
            for name in rng.sample(sorted(sites), rng.randint(0, len(places) - 1)):
                calls.append(gone(name))
                sites.pop(name)
            if (50, 1) not in places and len(sites) < 8:
                calls.append(add(50, 1))
                sites[len(places)] = (50, 1)
            asked = rng.choice(sorted(sites))
            found = told(calls + [cell(asked), nearest(50, 1, 1, 1)])[-2:]
            self.assertEqual(found, [slow_cell(sites, asked), slow_nearest(sites, (50, 1))], places)


if __name__ == "__main__":
    unittest.main()
