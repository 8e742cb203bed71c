"""Places in the lands of drawings, and where they are carried from one drawing to another."""

from mapflow.checks import is_fraction, is_list, is_place, is_within
from mapflow.drawings import is_drawing, place_of, want_placing
from mapflow.errors import BadNumber, BadPlace, Misfit
from mapflow.flows import MOST_STEPS, film_of, want_drawings, want_flow, want_placings
from mapflow.fractions import multiplied, reduced, sign_of, sum_of
from mapflow.maps import want_land
from mapflow.points import line_along, points_of


def want_place(value):
    """Wants a place for the parameter place."""
    if not is_place(value):
        raise BadPlace("place")


def lines_of(lands, points):
    """For each land the lines of its sides: that across from its first dot, from its second one, from its third one."""
    sides = []
    for a, b, c in lands:
        one, two, three = points[a], points[b], points[c]
        sides.append((line_along(two, three), line_along(three, one), line_along(one, two)))
    return sides


def spot_among(sides, point):
    """The pair of the index of the first land with this point, and the parts of its dots in it; None without one.

    The parts are integers: each dot takes part as far as the point is from the side across from it.
    """
    x, y = point
    for k, lines in enumerate(sides):
        parts = [a * x + b * y + c for a, b, c in lines]
        if min(parts) >= 0:
            return (k, parts)
    return None


def spot_in(placing, place):
    """What spot_of tells, of a drawing and a place."""
    *points, point = points_of([*placing.places, place_of(place)])
    lands = placing.chart.lands
    found = spot_among(lines_of(lands, points), point)
    if found is None:
        return None
    k, parts = found
    return (lands[k], tuple([reduced(part, sum(parts)) for part in parts]))


def spot_of(placing, place):
    """The pair of the least land in which a place lies, and its shares there; None for a place outside."""
    want_placing(placing, "placing")
    want_place(place)
    if not is_drawing(placing):
        raise Misfit("placing")
    return spot_in(placing, place)


def mean_place(placing, land, shares):
    """The mean of the places of a land's dots by these shares."""
    corners = [placing.places[dot] for dot in land]
    across = sum_of([multiplied(share, x) for share, (x, _) in zip(shares, corners)])
    return (across, sum_of([multiplied(share, y) for share, (_, y) in zip(shares, corners)]))


def are_shares(value):
    """Whether value is a list of three fractions from 0 on, 1 together."""
    if not is_list(value) or len(value) != 3:
        return False
    return all([is_fraction(share) and sign_of(share) >= 0 for share in value]) and sum_of(value) == (1, 1)


def place_at(placing, land, shares):
    """The place with these shares in a land; the shares are in the order in which the land's dots are told."""
    want_placing(placing, "placing")
    want_land(placing.chart, land, "land")
    if not are_shares(shares):
        raise BadNumber("shares")
    if not is_drawing(placing):
        raise Misfit("placing")
    return mean_place(placing, land, shares)


def want_spot(placing, place):
    """The spot of a place of a drawing, which is not outside."""
    spot = spot_in(placing, place)
    if spot is None:
        raise Misfit("place")
    return spot


def carried(one, other, place):
    """The place to which a place is carried from one drawing to another."""
    want_placings(one, other)
    want_place(place)
    want_drawings(one, other)
    if one.chart != other.chart:
        raise Misfit("other")
    land, shares = want_spot(one, place)
    return mean_place(other, land, shares)


def trail_of(one, other, place, many):
    """The places to which a place is carried from one drawing along the flow to another."""
    want_placings(one, other)
    want_place(place)
    if not is_within(many, 1, MOST_STEPS):
        raise BadNumber("many")
    want_flow(one, other)
    land, shares = want_spot(one, place)
    return tuple([mean_place(placing, land, shares) for placing in film_of(one, other, many)])
