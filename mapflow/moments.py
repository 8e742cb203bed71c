"""The polynomials that tell a flow at all moments at once."""

from mapflow.equations import above_down
from mapflow.flows import corners_of, want_flow, want_placings
from mapflow.fractions import multiplied, reduced
from mapflow.maps import want_land
from mapflow.papers import Paper
from mapflow.polys import poly_through
from mapflow.tellback import mixed_weights, weights_of
from mapflow.weights import equations_of
from mapflow.wholes import area_whole, wholes_of


def values_at(weights, corners):
    """Down at one moment, and what stands above it for x and for y of each inner dot: a list of fractions."""
    told = equations_of(weights, corners)
    below = 1
    for _, times in told:
        # In each order one number is of this row: so what is made of integers is to be divided by all these.
        below *= times
    down, above = above_down([row for row, _ in told])
    values = [down]
    for sides in above:
        values.extend(sides)
    return [reduced(value, below) for value in values]


def polys_of(one, other):
    """What flow_polys tells, of two drawings of one map in one frame."""
    first, last, corners = weights_of(one), weights_of(other), corners_of(one)
    many = len(one.chart.inner)
    # None of these polynomials has more than many + 1 numbers: so as many moments tell it.
    moments = [(k, max(many, 1)) for k in range(many + 1)]
    values = [values_at(mixed_weights(first, last, moment), corners) for moment in moments]
    down, *above = [poly_through(list(zip(moments, column))) for column in zip(*values)]
    return (down, tuple([(above[2 * k], above[2 * k + 1]) for k in range(many)]))


def flow_polys(one, other):
    """The pair of the down of the flow, and for each inner dot the pair of what stands above it for x and for y."""
    want_placings(one, other)
    want_flow(one, other)
    return polys_of(one, other)


def above_all(placing, axis, down, places):
    """What stands above down for each dot, for x (axis 0) or for y (axis 1), as wholes_of tells polynomials.

    The dots of the frame stand as in the placing; places has a pair of polynomials for each inner dot.
    """
    inner = dict(zip(placing.chart.inner, places))
    polys = []
    for dot, place in enumerate(placing.places):
        polys.append(inner[dot][axis] if dot in inner else [multiplied(place[axis], number) for number in down])
    return wholes_of(polys)


def area_poly(one, other, land):
    """The area polynomial of a land of the map."""
    want_placings(one, other)
    want_flow(one, other)
    told = want_land(one.chart, land, "land")
    down, places = polys_of(one, other)
    (xs, below), (ys, under) = above_all(one, 0, down, places), above_all(one, 1, down, places)
    return tuple([reduced(number, below * under) for number in area_whole(xs, ys, told)])


class Always(Paper):
    """Polynomials that tell a flow at all moments."""

    def __init__(self, down, places):
        Paper.__init__(self, "always", down, places)
        self.down = self.parts[0]
        self.places = self.parts[1]


def judged_flow(one, other):
    """The Always of the polynomials that tell the flow from one to other."""
    down, places = flow_polys(one, other)
    return Always(down, places)
