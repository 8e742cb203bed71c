"""Flows between drawings, films and walks, and which drawings flow into one another."""

from mapflow.builds import Unlike, judged_same, shows_same
from mapflow.checks import is_fraction_to, is_list, is_within
from mapflow.drawings import is_drawing, want_placing
from mapflow.errors import BadNumber, BadPlacing, Misfit
from mapflow.fractions import fraction_of, taken
from mapflow.maps import is_dot
from mapflow.papers import Denial, Paper
from mapflow.tellback import mixed_weights, weights_of
from mapflow.weights import rest_within, want_solvable

MOST_STEPS = 40
MOST_WALKED = 12


def corners_of(placing):
    """The place of each dot of the frame, as a dict."""
    return {dot: placing.places[dot] for dot in placing.chart.frame}


def are_framed_alike(one, other):
    """Whether two placings are of one map, and have the same places of the dots of its frame."""
    return one.chart == other.chart and corners_of(one) == corners_of(other)


def want_placings(one, other):
    """Wants placings for one and other."""
    want_placing(one, "one")
    want_placing(other, "other")


def want_drawings(one, other):
    """Wants drawings for one and other, which are placings."""
    if not is_drawing(one):
        raise Misfit("one")
    if not is_drawing(other):
        raise Misfit("other")


def want_alike(one, other):
    """Wants that one and other, which are placings, are drawings of one map in one frame."""
    want_drawings(one, other)
    if not are_framed_alike(one, other):
        raise Misfit("other")


def want_flow(one, other):
    """Wants that one and other, which are placings, are drawings between which there is a flow that can be told."""
    want_alike(one, other)
    want_solvable(one.chart)


def rest_between(one, other, moment, corners):
    """The rest of the weights between those of one and of other, in the frame with these corners."""
    return rest_within(mixed_weights(one, other, moment), corners)


def flow_at(one, other, moment):
    """The placing of the flow from one to other at a moment."""
    want_placings(one, other)
    if not is_fraction_to(moment, 1):
        raise BadNumber("moment")
    want_flow(one, other)
    return rest_between(weights_of(one), weights_of(other), moment, corners_of(one))


def film_of(one, other, many):
    """The placings of the flow from one to other at the moments 0, 1 / many, .., 1."""
    want_placings(one, other)
    if not is_within(many, 1, MOST_STEPS):
        raise BadNumber("many")
    want_flow(one, other)
    first, last, corners = weights_of(one), weights_of(other), corners_of(one)
    return tuple([rest_between(first, last, (step, many), corners) for step in range(many + 1)])


def want_some(drawings, least, most):
    """Wants a list of so many placings for drawings."""
    if not is_list(drawings) or not is_within(len(drawings), least, most):
        raise BadPlacing("drawings")
    for drawing in drawings:
        want_placing(drawing, "drawings")


def want_framed_alike(drawings, first, part):
    """Wants that each one of these placings is a drawing of the map of the first one, in its frame."""
    for drawing in drawings:
        if not is_drawing(drawing) or not are_framed_alike(first, drawing):
            raise Misfit(part)


def walk_at(drawings, moment):
    """The placing of the walk through some drawings at a moment."""
    want_some(drawings, 2, MOST_WALKED)
    if not is_fraction_to(moment, len(drawings) - 1):
        raise BadNumber("moment")
    want_framed_alike(drawings, drawings[0], "drawings")
    want_solvable(drawings[0].chart)
    up, down = fraction_of(moment)
    # The last moment is the end of the last flow, not the beginning of another one.
    begin = min(up // down, len(drawings) - 2)
    one, other = drawings[begin], drawings[begin + 1]
    return rest_between(weights_of(one), weights_of(other), taken(moment, begin), corners_of(one))


class Flows(Paper):
    """Two drawings flow into one another."""

    def __init__(self):
        Paper.__init__(self, "flows")


class Otherwise(Denial):
    """Two drawings of one map have unlike places of this dot of the frame."""

    def __init__(self, dot):
        Denial.__init__(self, "otherwise", dot)
        self.dot = self.parts[0]


def unlike_corners(one, other):
    """The dots of the frame that have unlike places in two placings of one map."""
    return [dot for dot in one.chart.frame if one.places[dot] != other.places[dot]]


def judged_pair(one, other):
    """Flows if two drawings flow into one another, otherwise the Unlike or the Otherwise that tells why not."""
    want_placings(one, other)
    want_drawings(one, other)
    if one.chart != other.chart:
        return judged_same(one.chart, other.chart)
    dots = unlike_corners(one, other)
    return Otherwise(dots[0]) if dots else Flows()


def shows_pair(one, other, value):
    """Whether value is a right paper on whether two drawings flow into one another."""
    want_placings(one, other)
    want_drawings(one, other)
    if type(value) is Unlike:
        return shows_same(one.chart, other.chart, value)
    if one.chart != other.chart:
        return False
    if type(value) is Flows:
        return not unlike_corners(one, other)
    if type(value) is Otherwise:
        return is_dot(value.dot) and value.dot in unlike_corners(one, other)
    return False
