"""Straight moves from drawing to drawing, which may fall."""

from mapflow.checks import is_fraction, is_fraction_to
from mapflow.drawings import Placing
from mapflow.errors import BadNumber
from mapflow.flows import want_alike, want_placings
from mapflow.fractions import fraction_of, mixed, over_one_down, sign_of, taken
from mapflow.maps import land_of
from mapflow.papers import Denial, Paper
from mapflow.wholes import area_whole, cut
from mapflow.zeros import first_span, is_above_on, zeros_within


def straight_at(one, other, moment):
    """The placing of the straight move from one to other at a moment."""
    want_placings(one, other)
    if not is_fraction_to(moment, 1):
        raise BadNumber("moment")
    want_alike(one, other)
    places = [(mixed(x, far, moment), mixed(y, high, moment)) for (x, y), (far, high) in zip(one.places, other.places)]
    return Placing(one.chart, places)


class Clear(Paper):
    """All lands are upright at all moments of a straight move."""

    def __init__(self):
        Paper.__init__(self, "clear")


class Falls(Denial):
    """In a straight move all lands are upright up to low, and this one falls above low, up to high."""

    def __init__(self, land, low, high):
        Denial.__init__(self, "falls", land, low, high)
        self.land = self.parts[0]
        self.low = self.parts[1]
        self.high = self.parts[2]


def ways_along(one, other, axis):
    """A polynomial with integers for each dot, that tells its way for x (axis 0) or for y (axis 1)."""
    ups, _ = over_one_down([place[axis] for place in [*one.places, *other.places]])
    many = len(one.places)
    return [cut([begin, end - begin]) for begin, end in zip(ups[:many], ups[many:])]


def areas_along(one, other):
    """The area of each land in the straight move, as a dict of polynomials with integers."""
    xs, ys = ways_along(one, other, 0), ways_along(one, other, 1)
    return {land: area_whole(xs, ys, land) for land in one.chart.lands}


def are_upright(areas, high):
    """Whether all areas are above 0 from 0 to high, a reduced fraction, both counted."""
    return all([is_above_on(areas[land], (0, 1), high) for land in areas])


def judged_straight(one, other, width):
    """Clear if the straight move from one to other is clear, otherwise a Falls no wider than width."""
    want_placings(one, other)
    if not is_fraction(width) or sign_of(width) <= 0:
        raise BadNumber("width")
    want_alike(one, other)
    areas = areas_along(one, other)
    fallen, low, high = None, (1, 1), (1, 1)
    for land in areas:
        span = first_span(areas[land], (0, 1), (1, 1), width)
        # All stretches are halved from 0 to 1: so none of those that begin later has a zero up to low.
        if span is not None and sign_of(taken(low, span[0])) > 0:
            fallen = land
            low, high = span
    return Clear() if fallen is None else Falls(fallen, low, high)


def is_fall(chart, areas, value):
    """Whether a Falls is right; areas has that of each land of the map along the move."""
    land = land_of(chart, value.land)
    if land is None or not is_fraction_to(value.low, 1) or not is_fraction_to(value.high, 1):
        return False
    low, high = fraction_of(value.low), fraction_of(value.high)
    if sign_of(taken(high, low)) <= 0:
        return False
    return are_upright(areas, low) and zeros_within(areas[land], low, high) > 0


def shows_straight(one, other, value):
    """Whether value is a right paper on whether the straight move from one to other is clear."""
    want_placings(one, other)
    want_alike(one, other)
    areas = areas_along(one, other)
    if type(value) is Clear:
        return are_upright(areas, (1, 1))
    if type(value) is Falls:
        return is_fall(one.chart, areas, value)
    return False
