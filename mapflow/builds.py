"""Maps made of other ones, and whether two maps are the same."""

from mapflow.checks import is_list, is_within
from mapflow.errors import BadNumber, Misfit, TooMany
from mapflow.maps import MOST_DOTS, Map, land_at, land_of, want_dot, want_land, want_map
from mapflow.papers import Denial, Paper


def fan_map(corners):
    """The map with so many corners in its frame, and one inner dot, which is the last one."""
    if not is_within(corners, 3, 12):
        raise BadNumber("corners")
    return Map([(dot, (dot + 1) % corners, corners) for dot in range(corners)])


def split_at(chart, land):
    """The map with a new dot in a land, tied to its three dots."""
    want_map(chart, "chart")
    a, b, c = want_land(chart, land, "land")
    if chart.dots == MOST_DOTS:
        raise TooMany("dots", MOST_DOTS)
    dot = chart.dots
    others = [other for other in chart.lands if other != (a, b, c)]
    return Map([*others, (a, b, dot), (b, c, dot), (c, a, dot)])


def third_of(land, one, other):
    """The dot of a land that is neither of these two."""
    a, b, c = land
    return a + b + c - one - other


def exchanged(chart, one, other):
    """The map in which the tie of two dots is exchanged for that of the two others of its lands."""
    want_map(chart, "chart")
    want_dot(one, "one")
    want_dot(other, "other")
    left, right = land_at(chart, one, other), land_at(chart, other, one)
    if left is None or right is None:
        raise Misfit("other")
    above, below = third_of(left, one, other), third_of(right, one, other)
    if below in chart.rounds[above]:
        raise Misfit("other")
    others = [land for land in chart.lands if land not in (left, right)]
    return Map([*others, (one, below, above), (other, above, below)])


def renamed(chart, names):
    """The map in which each dot is called by its name."""
    want_map(chart, "chart")
    last = chart.dots - 1
    if not is_list(names) or not all([is_within(name, 0, last) for name in names]):
        raise BadNumber("names")
    if len(names) != chart.dots or len(set(names)) != chart.dots:
        raise BadNumber("names")
    return Map([(names[a], names[b], names[c]) for a, b, c in chart.lands])


def mirrored_map(chart):
    """The map with all lands the other way round."""
    want_map(chart, "chart")
    return Map([(a, c, b) for a, b, c in chart.lands])


class Same(Paper):
    """Two maps have the same lands."""

    def __init__(self):
        Paper.__init__(self, "same")


class Unlike(Denial):
    """This land is in just one of two maps."""

    def __init__(self, land):
        Denial.__init__(self, "unlike", land)
        self.land = self.parts[0]


def judged_same(one, other):
    """Same if both maps have the same lands, otherwise an Unlike."""
    want_map(one, "one")
    want_map(other, "other")
    single = [land for land in one.lands if land not in other.lands]
    single.extend([land for land in other.lands if land not in one.lands])
    return Unlike(min(single)) if single else Same()


def shows_same(one, other, value):
    """Whether value is a right paper on whether both maps have the same lands."""
    want_map(one, "one")
    want_map(other, "other")
    if type(value) is Same:
        return one.lands == other.lands
    if type(value) is Unlike:
        return (land_of(one, value.land) is None) != (land_of(other, value.land) is None)
    return False
