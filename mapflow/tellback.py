"""The weights that a drawing tells back, and weights between weights."""

from mapflow.checks import is_fraction_to, is_list, is_within
from mapflow.drawings import is_drawing, want_placing
from mapflow.errors import BadNumber, BadWeights, Misfit
from mapflow.fractions import divided, mixed, reduced, sum_of
from mapflow.maps import want_dot
from mapflow.points import points_of, turn_of
from mapflow.weights import Weights, is_rest, want_weights

MOST_MEANT = 12


def shares_at(points, ring, dot, neighbour):
    """The three-mean of an inner dot and a dot of its round, as a dict of the shares that are above 0."""
    centre, start = points[dot], points[neighbour]
    sides = [turn_of(centre, start, points[which]) for which in ring]
    # Going round from the neighbour one is to the left of the ray, and then, where it meets the ring, to its right.
    at = [k for k in range(len(ring)) if sides[k - 1] >= 0 > sides[k]][0]
    one, other = ring[at - 1], ring[at]
    areas = ((neighbour, turn_of(centre, points[one], points[other])), (one, -sides[at]), (other, sides[at - 1]))
    total = sum([area for _, area in areas])
    return {which: reduced(area, total) for which, area in areas if area > 0}


def points_at(placing, dot):
    """The points of an inner dot and the dots of its round, as a dict."""
    some = [dot, *placing.chart.rounds[dot]]
    points = points_of([placing.places[which] for which in some])
    return dict(zip(some, points))


def three_mean(placing, dot, neighbour):
    """The three-mean of an inner dot and a dot of its round: pairs of a dot and its share, ascending."""
    want_placing(placing, "placing")
    want_dot(dot, "dot")
    want_dot(neighbour, "neighbour")
    if not is_drawing(placing):
        raise Misfit("placing")
    if dot not in placing.chart.inner:
        raise Misfit("dot")
    ring = placing.chart.rounds[dot]
    if neighbour not in ring:
        raise Misfit("neighbour")
    shares = shares_at(points_at(placing, dot), ring, dot, neighbour)
    return tuple(sorted([(which, shares[which]) for which in shares]))


def told_row(placing, dot):
    """The weights that a drawing tells back for an inner dot: the mean of its three-means."""
    ring, points = placing.chart.rounds[dot], points_at(placing, dot)
    means = [shares_at(points, ring, dot, neighbour) for neighbour in ring]
    return [divided(sum_of([shares.get(which, 0) for shares in means]), len(ring)) for which in ring]


def weights_of(placing):
    """The weights that a drawing tells back."""
    want_placing(placing, "placing")
    if not is_drawing(placing):
        raise Misfit("placing")
    return Weights(placing.chart, [told_row(placing, dot) for dot in placing.chart.inner])


def shows_weights(placing, value):
    """Whether value is weights of the map of the placing, which is a rest of them."""
    want_placing(placing, "placing")
    return isinstance(value, Weights) and value.chart == placing.chart and is_rest(placing, value)


def mixed_weights(one, other, share):
    """The weights whose numbers are (1 - share) times those of one, and share times those of other."""
    want_weights(one, "one")
    want_weights(other, "other")
    if not is_fraction_to(share, 1):
        raise BadNumber("share")
    if one.chart != other.chart:
        raise Misfit("other")
    rows = []
    for first, second in zip(one.rows, other.rows):
        rows.append([mixed(number, more, share) for number, more in zip(first, second)])
    return Weights(one.chart, rows)


def mean_weights(some):
    """The weights whose numbers are the means of the numbers of some."""
    if not is_list(some) or not is_within(len(some), 1, MOST_MEANT):
        raise BadWeights("some")
    for weights in some:
        want_weights(weights, "some")
    if not all([each.chart == some[0].chart for each in some]):
        raise Misfit("some")
    tables = [each.rows for each in some]
    rows = []
    for alike in zip(*tables):
        rows.append([divided(sum_of(numbers), len(some)) for numbers in zip(*alike)])
    return Weights(some[0].chart, rows)
