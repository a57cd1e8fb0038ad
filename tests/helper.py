"""Calls written by name, answers taken apart, and a slow second way to every answer."""
from fractions import Fraction

from nearestsites.land import answers

SQUARE_LINES = [(1, 0, 100), (-1, 0, 100), (0, 1, 100), (0, -1, 100)]
WHOLE_SQUARE = [4, 40000, 1, -100, 1, -100, 1, 100, 1, -100, 1, 100, 1, 100, 1, -100, 1, 100, 1]


def add(across, up):
    return [0, across, up]


def gone(name):
    return [1, name]


def nearest(a, b, c, d):
    return [2, a, b, c, d]


def within(far, a, b, c, d):
    return [3, far, a, b, c, d]


def cell(name):
    return [4, name]


def adds(places):
    return [add(across, up) for across, up in places]


def joined(calls):
    return [number for call in calls for number in call]


def told(calls):
    """The answers of the calls, one list each."""
    numbers = answers(joined(calls))
    split = []
    at = 0
    while at < len(numbers):
        split.append(numbers[at + 1:at + 1 + numbers[at]])
        at += 1 + numbers[at]
    assert at == len(numbers) and len(split) == len(calls), numbers
    return split


def last_told(calls):
    return told(calls)[-1]


def far_of(site, place):
    return (site[0] - place[0]) ** 2 + (site[1] - place[1]) ** 2


def slow_nearest(sites, place):
    """sites: name to place. By fractions, one site after another."""
    fars = {name: Fraction(far_of(sites[name], place)) for name in sites}
    least = min(fars.values())
    names = sorted(name for name in fars if fars[name] == least)
    return [len(names), least.numerator, least.denominator] + names


def slow_within(sites, far, place):
    names = sorted(name for name in sites if far_of(sites[name], place) <= far)
    return [len(names)] + names


def cell_lines(sites, name):
    """Each (p, q, r): the places with p * across + q * up <= r."""
    own = sites[name]
    lines = list(SQUARE_LINES)
    for other in sites.values():
        if other != own:
            squares = far_of(other, (0, 0)) - far_of(own, (0, 0))
            lines.append((2 * (other[0] - own[0]), 2 * (other[1] - own[1]), squares))
    return lines


def crossings_within(lines):
    """Every place where two of the lines cross and that is on the right side of all."""
    found = set()
    for p, q, r in lines:
        for s, t, u in lines:
            slant = p * t - q * s
            if slant != 0:
                x, y = Fraction(r * t - q * u, slant), Fraction(p * u - r * s, slant)
                if all(i * x + j * y <= k for i, j, k in lines):
                    found.add((x, y))
    return sorted(found)


def turn(a, b, c):
    return (b[0] - a[0]) * (c[1] - a[1]) - (b[1] - a[1]) * (c[0] - a[0])


def half_hull(places):
    row = []
    for place in places:
        while len(row) > 1 and turn(row[-2], row[-1], place) <= 0:
            row.pop()
        row.append(place)
    return row[:-1]


def slow_cell(sites, name):
    """By every crossing of two lines, and the hull round those that belong to the cell."""
    found = crossings_within(cell_lines(sites, name))
    corners = half_hull(found) + half_hull(found[::-1])
    area = sum(turn((0, 0), a, b) for a, b in zip(corners, corners[1:] + corners[:1])) / Fraction(2)
    answer = [len(corners), area.numerator, area.denominator]
    for x, y in corners:
        answer += [x.numerator, x.denominator, y.numerator, y.denominator]
    return answer
