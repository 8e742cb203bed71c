"""Maps: lands, all triangles, laid side by side to one piece within a frame."""

from mapflow.checks import is_list, is_within
from mapflow.errors import BadLand, BadMap, BadNumber, BadText, Misfit
from mapflow.texts import integer_at, item_at, items_of

MOST_LANDS = 120
MOST_DOTS = 60


def is_dot(value):
    """Whether value is an integer that a dot can be."""
    return is_within(value, 0, MOST_DOTS - 1)


def is_land(value):
    """Whether value is a list of three unlike dots."""
    if not is_list(value) or len(value) != 3 or not all([is_dot(dot) for dot in value]):
        return False
    return len(set(value)) == 3


def are_lands(value):
    """Whether value is a list of as many lands as a map can have."""
    if not is_list(value) or not is_within(len(value), 1, MOST_LANDS):
        return False
    return all([is_land(land) for land in value])


def from_least(land):
    """The land, told with its least dot first."""
    a, b, c = land
    if a < b and a < c:
        return (a, b, c)
    return (b, c, a) if b < c else (c, a, b)


def followers_of(lands):
    """For each dot a dict that leads from b to c for each land (dot, b, c); None if a way is in two lands."""
    many = max([max(land) for land in lands]) + 1
    followers = [{} for _ in range(many)]
    for a, b, c in lands:
        for dot, one, other in ((a, b, c), (b, c, a), (c, a, b)):
            if one in followers[dot]:
                return None
            followers[dot][one] = other
    return followers


def ring_along(follower):
    """The dots of a dict one behind another, in one round or one fan; None if they do not hang together so."""
    if not follower:
        return None
    ends = sorted(set(follower) - set(list(follower.values())))
    ring = [ends[0] if ends else min(follower)]
    while ring[-1] in follower and follower[ring[-1]] != ring[0]:
        ring.append(follower[ring[-1]])
    # A fan has one dot more than lands, a round as many; with several ones some are not in this ring.
    if len(ring) != len(follower) + len(ends):
        return None
    return tuple(ring)


def are_one_piece(rounds):
    """Whether one comes from each dot to each other one by ties."""
    reached = {0: True}
    waiting = [0]
    while waiting:
        ring = rounds[waiting.pop()]
        for dot in ring:
            if dot not in reached:
                reached[dot] = True
                waiting.append(dot)
    return len(reached) == len(rounds)


def is_without_hole(rounds, lands):
    """Whether the dots, less the ties, and the lands are 1."""
    # Each tie stands in the rounds of both of its dots.
    ties = sum([len(ring) for ring in rounds]) // 2
    return len(rounds) - ties + len(lands) == 1


def frame_along(rounds, inner):
    """The frame: at each of its dots the round begins with the dot behind it."""
    frame = [min([dot for dot in range(len(rounds)) if dot not in inner])]
    while rounds[frame[-1]][0] != frame[0]:
        frame.append(rounds[frame[-1]][0])
    return tuple(frame)


class Map:
    """Lands that are laid side by side to one piece without a hole."""

    def __init__(self, lands):
        if not are_lands(lands):
            raise BadMap("lands")
        told = tuple(sorted([from_least(land) for land in lands]))
        followers = followers_of(told)
        if followers is None:
            raise Misfit("lands")
        rounds = tuple([ring_along(follower) for follower in followers])
        if None in rounds or not are_one_piece(rounds) or not is_without_hole(rounds, told):
            raise Misfit("lands")
        self.lands = told
        self.rounds = rounds
        self.dots = len(rounds)
        self.inner = tuple([dot for dot in range(len(rounds)) if rounds[dot][-1] in followers[dot]])
        self.frame = frame_along(self.rounds, self.inner)

    def __eq__(self, other):
        return type(self) is type(other) and self.lands == other.lands

    def __str__(self):
        return " / ".join([f"{a} {b} {c}" for a, b, c in self.lands])

    @staticmethod
    def read(text):
        """The map whose text is this one."""
        items = items_of(text)
        lands = read_lands(items, None)
        try:
            return Map(lands)
        except Misfit:
            raise BadText(0, len(items) - 1) from None


def can_begin(dots, before):
    """Whether these dots can stand at the beginning of a land behind another land, or behind ()."""
    if len(set(dots)) < len(dots) or min(dots) < dots[0]:
        return False
    return dots > before if len(dots) == 3 else dots >= before[:len(dots)]


def read_land(items, at, before):
    """The land whose first dot stands at an index, behind another land, or behind ()."""
    land = ()
    for k in range(3):
        land = (*land, integer_at(items, at + k, 0, MOST_DOTS - 1))
        if not can_begin(land, before):
            raise BadText(0, at + k)
    return land


def read_lands(items, closing):
    """The lands with which a text begins, up to the item closing; None closes with the end of the text."""
    lands = [read_land(items, 0, ())]
    at = 3
    while item_at(items, at) != closing:
        if item_at(items, at) != "/" or len(lands) == MOST_LANDS:
            raise BadText(0, at)
        lands.append(read_land(items, at + 1, lands[-1]))
        at += 4
    return lands


def want_map(value, part):
    """Wants a map for this parameter."""
    if not isinstance(value, Map):
        raise BadMap(part)


def want_dot(value, part):
    """Wants a dot for this parameter, perhaps one that a map has not."""
    if not is_dot(value):
        raise BadNumber(part)


def land_of(chart, value):
    """The land of the map that value tells from any of its dots, as the map tells it; None if it tells none."""
    if not is_land(value) or from_least(value) not in chart.lands:
        return None
    return from_least(value)


def want_land(chart, value, part):
    """The land of the map that this parameter tells, as the map tells it."""
    land = land_of(chart, value)
    if land is None:
        raise BadLand(part)
    return land


def round_of(chart, dot):
    """The round of a dot: its neighbours, counterclockwise."""
    want_map(chart, "chart")
    want_dot(dot, "dot")
    if dot >= chart.dots:
        raise Misfit("dot")
    return chart.rounds[dot]


def ties_of(chart):
    """All ties of the map, ascending."""
    want_map(chart, "chart")
    return tuple(sorted([(dot, other) for dot in range(chart.dots) for other in chart.rounds[dot] if dot < other]))


def land_at(chart, one, other):
    """The land that has the way from one to other, None if there is none."""
    want_map(chart, "chart")
    want_dot(one, "one")
    want_dot(other, "other")
    for a, b, c in chart.lands:
        if (one, other) in ((a, b), (b, c), (c, a)):
            return (a, b, c)
    return None
