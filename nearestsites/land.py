"""Sites in a square land: which are nearest from a place, how far their cells go, how they lie together.

A site stands at a pair of whole numbers. Any other place is held as three whole numbers
(x, y, w) with w above 0: x by w across and y by w up. One w for both keeps every step in
whole numbers, so nothing is ever rounded. How far is always squared.
"""

ADD = 0
GONE = 1
NEAREST = 2
WITHIN = 3
CELL = 4
BESIDE = 5
LONELIEST = 6
CLOSEST = 7
AROUND = 8

# How many numbers stand behind a call's own number, call by call from 0 on; the last is sites.
NUMBERS_BEHIND = (2, 1, 4, 5, 1, 1, 0, 0, 0, 0)

WRONG_PLACE = -1
NO_ROOM = -2
NO_SUCH_SITE = -3
TAKEN = -4
TOO_FEW_SITES = -6

REACH = 100
MOST_SITES = 8
MOST_ABOVE = 100000
MOST_BELOW = 1000

# Turning left, as every row of corners here does.
SQUARE = ((-100, -100, 1), (100, -100, 1), (100, 100, 1), (-100, 100, 1))


def answers(calls):
    """The answers of one land's calls, one behind another, each with its length before it."""
    land = Land()
    told = []
    at = 0
    while at < len(calls):
        call = calls[at]
        behind = at + 1 + NUMBERS_BEHIND[call]
        answer = answer_of(land, call, calls[at + 1:behind])
        told.append(len(answer))
        told.extend(answer)
        at = behind
    return told


def answer_of(land, call, given):
    if call == ADD:
        return land.add(given[0], given[1])
    if call == GONE:
        return land.gone(given[0])
    if call == NEAREST:
        return land.nearest(given)
    if call == WITHIN:
        return land.within(given[0], given[1:])
    if call == CELL:
        return land.cell(given[0])
    if call == BESIDE:
        return land.beside(given[0])
    if call == LONELIEST:
        return land.loneliest()
    if call == CLOSEST:
        return land.closest()
    if call == AROUND:
        return land.around()
    return land.sites()


class Land:
    """The sites of one land. Each method answers a list: what its call tells, or a refusal alone."""

    def __init__(self):
        self.places = {}
        # Counted apart from the sites there are, so that no name comes back when one goes.
        self.fresh_name = 0

    def add(self, across, up):
        if abs(across) > REACH or abs(up) > REACH:
            return [WRONG_PLACE]
        if (across, up) in list(self.places.values()):
            return [TAKEN]
        if len(self.places) >= MOST_SITES:
            return [NO_ROOM]
        name = self.fresh_name
        self.places[name] = (across, up)
        self.fresh_name = name + 1
        return [name]

    def gone(self, name):
        if name not in self.places:
            return [NO_SUCH_SITE]
        self.places.pop(name)
        return [len(self.places)]

    def nearest(self, told):
        if not is_place(told):
            return [WRONG_PLACE]
        if len(self.places) == 0:
            return [TOO_FEW_SITES]
        place = place_of(told)
        least = min([far_times(place, site) for site in self.places.values()])
        names = self.names_up_to(least, place)
        return [len(names)] + lowest(least, place[2] * place[2]) + names

    def within(self, far, told):
        if not is_place(told):
            return [WRONG_PLACE]
        place = place_of(told)
        names = self.names_up_to(far * place[2] * place[2], place)
        return [len(names)] + names

    def cell(self, name):
        if name not in self.places:
            return [NO_SUCH_SITE]
        corners = from_first_on(self.corners_of(name))
        answer = [len(corners)] + area(corners)
        for corner in corners:
            answer.extend(fractions_of(corner))
        return answer

    def beside(self, name):
        if name not in self.places:
            return [NO_SUCH_SITE]
        own = self.places[name]
        corners = self.corners_of(name)
        others = [other for other in sorted(self.places) if other != name]
        names = [other for other in others if has_side_towards(corners, own, self.places[other])]
        return [len(names)] + names

    def loneliest(self):
        """Of a cell the places furthest from its site are corners, so no other place is looked at."""
        if len(self.places) == 0:
            return [TOO_FEW_SITES]
        rings = []
        for name in self.places:
            site = self.places[name]
            rings.extend([(corner, far_times(corner, site)) for corner in self.corners_of(name)])
        best = rings[0]
        for ring in rings:
            if is_lonelier(ring, best):
                best = ring
        return numbers_of(best)

    def closest(self):
        if len(self.places) < 2:
            return [TOO_FEW_SITES]
        names = sorted(self.places)
        twos = []
        for at in range(1, len(names)):
            place = as_place(self.places[names[at]])
            twos.extend([(far_times(place, self.places[name]), name, names[at]) for name in names[:at]])
        # As near, the names decide: the tuples are compared from the front.
        best = min(twos)
        return [best[1], best[2], best[0], 1]

    def around(self):
        if len(self.places) == 0:
            return [TOO_FEW_SITES]
        sites = list(self.places.values())
        rings = [ring_round(middle, sites) for middle in middles(sites)]
        best = rings[0]
        for ring in rings:
            if excess(best, ring) > 0:
                best = ring
        return numbers_of(best)

    def sites(self):
        answer = [len(self.places)]
        for name in sorted(self.places):
            site = self.places[name]
            answer.extend([name, site[0], site[1]])
        return answer

    def names_up_to(self, most, place):
        """The names, rising, of the sites whose far_times from the place is at most that."""
        return [name for name in sorted(self.places) if far_times(place, self.places[name]) <= most]

    def corners_of(self, name):
        """The corners of a site's cell, turning left, from any of them on."""
        own = self.places[name]
        corners = list(SQUARE)
        for other in self.places.values():
            if other != own:
                corners = cut(corners, own, other)
        return corners


def is_place(told):
    """Whether these four numbers tell a place; they needn't be without anything in common."""
    return is_fraction(told[0], told[1]) and is_fraction(told[2], told[3])


def is_fraction(above, below):
    return abs(above) <= MOST_ABOVE and 1 <= below <= MOST_BELOW


def place_of(told):
    return (told[0] * told[3], told[2] * told[1], told[1] * told[3])


def as_place(site):
    return (site[0], site[1], 1)


def far_times(place, site):
    """How far the site is from the place, times w * w: whole, and for one place in the sites' true order."""
    across = place[0] - site[0] * place[2]
    up = place[1] - site[1] * place[2]
    return across * across + up * up


def common(one, other):
    """The greatest number that goes into both; neither is below 0 (of 0 and 0 it's 0)."""
    while other != 0:
        rest = one % other
        one = other
        other = rest
    return one


def lowest(above, below):
    """The fraction's two numbers with nothing in common; below is above 0."""
    shared = common(abs(above), below)
    return [above // shared, below // shared]


def fractions_of(place):
    """The place's four numbers as they are told."""
    return lowest(place[0], place[2]) + lowest(place[1], place[2])


def lead(place, own, other):
    """How much further other is from the place than own, times w: 0 just where both are as far.

    The squares of the place itself cancel out. So this is straight in x, y and w, and the place
    where it comes to 0 on a side can be weighed out from the side's two ends.
    """
    squares = other[0] * other[0] + other[1] * other[1] - own[0] * own[0] - own[1] * own[1]
    across = (other[0] - own[0]) * place[0]
    up = (other[1] - own[1]) * place[1]
    return squares * place[2] - 2 * (across + up)


def cut(corners, own, other):
    """The corners of what is left without the places that are nearer to other than to own.

    Own lies within the corners and never on the line between the two sites. So what is left has
    an area, and where no three corners were on one straight line or two the same, none are then:
    a corner just on the line is kept as it is, and a new one comes only strictly between two.
    """
    kept = []
    before = corners[-1]
    for corner in corners:
        lead_before = lead(before, own, other)
        lead_here = lead(corner, own, other)
        if lead_before * lead_here < 0:
            kept.append(between(before, abs(lead_here), corner, abs(lead_before)))
        if lead_here >= 0:
            kept.append(corner)
        before = corner
    return kept


def between(one, weight, other, other_weight):
    """The place that comes from two others, weighed."""
    x = one[0] * weight + other[0] * other_weight
    y = one[1] * weight + other[1] * other_weight
    w = one[2] * weight + other[2] * other_weight
    # Numbers would grow with each cut if what they share stayed in them.
    shared = common(common(abs(x), abs(y)), w)
    return (x // shared, y // shared, w // shared)


def area(corners):
    """The area within corners that turn left, as a fraction's two numbers."""
    above = 0
    below = 1
    before = corners[-1]
    for corner in corners:
        step = before[0] * corner[1] - corner[0] * before[1]
        step_below = before[2] * corner[2]
        above = above * step_below + step * below
        below = below * step_below
        before = corner
    return lowest(above, 2 * below)


def from_first_on(corners):
    """The same round of corners, begun at the one furthest left, of as far left the lowest."""
    first = 0
    for at in range(1, len(corners)):
        if is_ahead(corners[at], corners[first]):
            first = at
    return corners[first:] + corners[:first]


def is_ahead(one, other):
    """Whether one is further left than other, or as far left and lower."""
    across = one[0] * other[2] - other[0] * one[2]
    up = one[1] * other[2] - other[1] * one[2]
    return across < 0 or (across == 0 and up < 0)


def has_side_towards(corners, own, other):
    """Whether own's cell, which has these corners, has a side in common with other's.

    What both have in common is what own's cell has of the line between the two sites. The cell is
    on one side of that line and no three of its corners are on one: two on it make a side, one a point.
    """
    shared = [corner for corner in corners if lead(corner, own, other) == 0]
    return len(shared) == 2


def excess(ring, other):
    """Above 0 if ring is the larger one, 0 if they are as large, else below 0.

    A ring is a place, its middle, and how far it goes from there, times w * w of the middle.
    """
    w = ring[0][2]
    other_w = other[0][2]
    return ring[1] * other_w * other_w - other[1] * w * w


def is_lonelier(ring, other):
    """Whether ring is the larger one, or as large and its middle comes first."""
    more = excess(ring, other)
    return more > 0 or (more == 0 and is_ahead(ring[0], other[0]))


def numbers_of(ring):
    """The ring's six numbers as they are told."""
    w = ring[0][2]
    return fractions_of(ring[0]) + lowest(ring[1], w * w)


def ring_round(middle, sites):
    """The least ring with this middle that goes round all the sites."""
    return (middle, max([far_times(middle, site) for site in sites]))


def middles(sites):
    """Places of which one is the middle of the least circle round the sites.

    That circle is held by two sites just across from one another or by three, but where there is
    one site alone. The middle of every such circle is here; those too many do no harm.
    """
    found = []
    for at in range(len(sites)):
        found.append(as_place(sites[at]))
        for before in range(at):
            found.append(halfway(sites[at], sites[before]))
            found.extend([as_far_from(sites[at], sites[before], third)
                          for third in sites[:before] if turn(sites[at], sites[before], third) != 0])
    return found


def halfway(one, other):
    return (one[0] + other[0], one[1] + other[1], 2)


def turn(one, other, third):
    """Above 0 if the way over these three sites turns left, 0 if it's straight, else below 0."""
    return (other[0] - one[0]) * (third[1] - one[1]) - (other[1] - one[1]) * (third[0] - one[0])


def as_far_from(one, other, third):
    """The place that is as far from one as from other and third; the three aren't on one line."""
    across = other[0] - one[0]
    up = other[1] - one[1]
    far = across * across + up * up
    third_across = third[0] - one[0]
    third_up = third[1] - one[1]
    third_far = third_across * third_across + third_up * third_up
    w = 2 * turn(one, other, third)
    x = one[0] * w + far * third_up - third_far * up
    y = one[1] * w + third_far * across - far * third_across
    # A place's w is above 0, whichever way round the three sites come.
    return (x, y, w) if w > 0 else (-x, -y, -w)
