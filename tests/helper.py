"""Calls written by name, answers taken apart, and a slow second way to every answer."""
from fractions import Fraction
from itertools import combinations

from nearestsites.land import answers

SQUARE_LINES = [(1, 0, 100), (-1, 0, 100), (0, 1, 100), (0, -1, 100)]
WHOLE_SQUARE = [4, 40000, 1, -100, 1, -100, 1, 100, 1, -100, 1, 100, 1, 100, 1, -100, 1, 100, 1]


def add(across, up):
    return [0, across, up]


def gone(name):
    return [1, name]


def nearest(a, b, c, d):
    return [2, a, b, c, d]


def within(far, a, b, c, d):
    return [3, far, a, b, c, d]


def cell(name):
    return [4, name]


def beside(name):
    return [5, name]


LONELIEST = [6]
CLOSEST = [7]
AROUND = [8]
SITES = [9]


def adds(places):
    return [add(across, up) for across, up in places]


def joined(calls):
    return [number for call in calls for number in call]


def told(calls):
    """The answers of the calls, one list each."""
    numbers = answers(joined(calls))
    split = []
    at = 0
    while at < len(numbers):
        split.append(numbers[at + 1:at + 1 + numbers[at]])
        at += 1 + numbers[at]
    assert at == len(numbers) and len(split) == len(calls), numbers
    return split


def last_told(calls):
    return told(calls)[-1]


def far_of(site, place):
    return (site[0] - place[0]) ** 2 + (site[1] - place[1]) ** 2


def slow_nearest(sites, place):
    """sites: name to place. By fractions, one site after another."""
    fars = {name: Fraction(far_of(sites[name], place)) for name in sites}
    least = min(fars.values())
    names = sorted(name for name in fars if fars[name] == least)
    return [len(names), least.numerator, least.denominator] + names


def slow_within(sites, far, place):
    names = sorted(name for name in sites if far_of(sites[name], place) <= far)
    return [len(names)] + names


def line_between(own, other):
    """As (p, q, r): no place with p * across + q * up <= r is nearer to other than to own."""
    squares = far_of(other, (0, 0)) - far_of(own, (0, 0))
    return (2 * (other[0] - own[0]), 2 * (other[1] - own[1]), squares)


def cell_lines(sites, name):
    own = sites[name]
    return SQUARE_LINES + [line_between(own, other) for other in sites.values() if other != own]


def crossings(lines, bounds):
    """Every place where two of the lines cross and that is on the right side of all bounds."""
    found = set()
    for (p, q, r), (s, t, u) in combinations(lines, 2):
        slant = p * t - q * s
        if slant != 0:
            x, y = Fraction(r * t - q * u, slant), Fraction(p * u - r * s, slant)
            if all(i * x + j * y <= k for i, j, k in bounds):
                found.add((x, y))
    return sorted(found)


def turn(a, b, c):
    return (b[0] - a[0]) * (c[1] - a[1]) - (b[1] - a[1]) * (c[0] - a[0])


def half_hull(places):
    row = []
    for place in places:
        while len(row) > 1 and turn(row[-2], row[-1], place) <= 0:
            row.pop()
        row.append(place)
    return row[:-1]


def slow_cell(sites, name):
    """By every crossing of two lines, and the hull round those that belong to the cell."""
    lines = cell_lines(sites, name)
    found = crossings(lines, lines)
    corners = half_hull(found) + half_hull(found[::-1])
    area = sum(turn((0, 0), a, b) for a, b in zip(corners, corners[1:] + corners[:1])) / Fraction(2)
    return [len(corners)] + above_and_below([area] + [number for corner in corners for number in corner])


def above_and_below(fractions):
    return [number for fraction in fractions for number in Fraction(fraction).as_integer_ratio()]


def slow_beside(sites, name):
    """By the ends of what two cells have in common: a side has two, a point is one."""
    names = []
    for other in sorted(sites):
        if other != name:
            lines = cell_lines(sites, name) + [line_between(sites[other], sites[name])]
            if len(crossings(lines, lines)) > 1:
                names.append(other)
    return [len(names)] + names


def slow_loneliest(sites):
    """By every crossing in the square of any two lines between sites, in a cell's corner or not."""
    lines = SQUARE_LINES + [line_between(own, other) for own, other in combinations(sites.values(), 2)]
    fars = {place: min(far_of(site, place) for site in sites.values()) for place in crossings(lines, SQUARE_LINES)}
    best = max(fars.values())
    first = min(place for place in fars if fars[place] == best)
    return above_and_below([first[0], first[1], best])


def slow_closest(sites):
    twos = list(combinations(sorted(sites), 2))
    fars = [far_of(sites[one], sites[other]) for one, other in twos]
    return list(twos[fars.index(min(fars))]) + [min(fars), 1]


def slow_sites(sites):
    return [len(sites)] + [number for name in sorted(sites) for number in (name, *sites[name])]


def is_least_circle(sites, answer):
    """Whether all sites are within, and those just on the circle hold it so that it can't be smaller."""
    x, y, far = (Fraction(answer[at], answer[at + 1]) for at in (0, 2, 4))
    if above_and_below([x, y, far]) != answer or any(far_of(site, (x, y)) > far for site in sites.values()):
        return False
    on_it = [site for site in sites.values() if far_of(site, (x, y)) == far]
    if far == 0:
        return len(on_it) == 1
    across = [(a[0] + b[0], a[1] + b[1]) for a, b in combinations(on_it, 2)]
    return (2 * x, 2 * y) in across or any(is_inside((x, y), *three) for three in combinations(on_it, 3))


def is_inside(place, a, b, c):
    turns = [turn(a, b, place), turn(b, c, place), turn(c, a, place)]
    return min(turns) > 0 or max(turns) < 0
