"""Weights of maps, and the rests that they have."""

from mapflow.checks import is_fraction, is_list
from mapflow.drawings import Placing, are_places, place_of, want_placing
from mapflow.equations import solved
from mapflow.errors import BadPlace, BadWeights, Misfit, TooMany
from mapflow.fractions import divided, fraction_of, multiplied, over_one_down, sign_of, sum_of, taken
from mapflow.maps import want_dot, want_map
from mapflow.points import is_convex, points_of

MOST_INNER = 20


def is_row(value):
    """Whether value is a list of fractions above 0."""
    return is_list(value) and all([is_fraction(number) and sign_of(number) > 0 for number in value])


def want_rows(chart, rows):
    """Wants a row for each inner dot of the map, with a number above 0 for each dot of its round."""
    want_map(chart, "chart")
    if not is_list(rows) or not all([is_row(row) for row in rows]):
        raise BadWeights("rows")
    if [len(row) for row in rows] != [len(chart.rounds[dot]) for dot in chart.inner]:
        raise Misfit("rows")


class Weights:
    """For each inner dot of a map a row of fractions above 0, one for each dot of its round, 1 together."""

    def __init__(self, chart, rows):
        want_rows(chart, rows)
        if not all([sum_of(row) == (1, 1) for row in rows]):
            raise Misfit("rows")
        self.chart = chart
        self.rows = tuple([tuple([fraction_of(number) for number in row]) for row in rows])

    def __eq__(self, other):
        return type(self) is type(other) and self.chart == other.chart and self.rows == other.rows


def want_weights(value, part):
    """Wants weights for this parameter."""
    if not isinstance(value, Weights):
        raise BadWeights(part)


def springs(chart, rows):
    """The weights whose rows are these, each divided by its sum."""
    want_rows(chart, rows)
    return Weights(chart, [[divided(number, sum_of(row)) for number in row] for row in rows])


def even_weights(chart):
    """The weights in which all numbers of a row are alike."""
    want_map(chart, "chart")
    return springs(chart, [[1 for _ in chart.rounds[dot]] for dot in chart.inner])


def equation_of(weights, k, corners):
    """The equation of inner dot k: it, less its inner neighbours by their weights, is the sum of those of the frame.

    It has two right sides, for x and for y; corners tells the place of each dot of the frame. It is told as a pair: its
    integers, and by which one all of them are to be divided.
    """
    inner = weights.chart.inner
    row = [(0, 1) for _ in inner]
    row[k] = (1, 1)
    across, upward = [], []
    for dot, weight in zip(weights.chart.rounds[inner[k]], weights.rows[k]):
        if dot in corners:
            x, y = corners[dot]
            across.append(multiplied(weight, x))
            upward.append(multiplied(weight, y))
        else:
            row[inner.index(dot)] = taken(0, weight)
    return over_one_down([*row, sum_of(across), sum_of(upward)])


def equations_of(weights, corners):
    """The equations of all inner dots, as pairs; corners is a dict of the place of each dot of the frame.

    With all but the first k inner dots held there is just one rest, too, however far one weakens the weights between
    them: so no determinant of theirs is 0, and all are above 0, as without such weights.
    """
    return [equation_of(weights, k, corners) for k in range(len(weights.chart.inner))]


def rest_within(weights, corners):
    """The rest of weights; corners is a dict of the place of each dot of the frame, which is convex."""
    chart = weights.chart
    answers = solved([row for row, _ in equations_of(weights, corners)])
    places = dict(zip(chart.inner, answers))
    return Placing(chart, [corners[dot] if dot in corners else places[dot] for dot in range(chart.dots)])


def want_solvable(chart):
    """Wants a map with no more inner dots than equations are solved for."""
    if len(chart.inner) > MOST_INNER:
        raise TooMany("inner", MOST_INNER)


def rest_of(weights, frame):
    """The placing that is the rest of weights with these places of the dots of the frame."""
    want_weights(weights, "weights")
    if not are_places(frame):
        raise BadPlace("frame")
    corners = [place_of(place) for place in frame]
    if len(corners) != len(weights.chart.frame) or not is_convex(points_of(corners)):
        raise Misfit("frame")
    want_solvable(weights.chart)
    return rest_within(weights, dict(zip(weights.chart.frame, corners)))


def pull_at(placing, weights, k):
    """The mean of the round of inner dot k, less the place of this dot."""
    dot = weights.chart.inner[k]
    ring = [placing.places[other] for other in weights.chart.rounds[dot]]
    across = sum_of([multiplied(weight, x) for weight, (x, _) in zip(weights.rows[k], ring)])
    upward = sum_of([multiplied(weight, y) for weight, (_, y) in zip(weights.rows[k], ring)])
    x, y = placing.places[dot]
    return (taken(across, x), taken(upward, y))


def pull_of(placing, weights, dot):
    """The mean of the dot's round, less the dot's place."""
    want_placing(placing, "placing")
    want_weights(weights, "weights")
    want_dot(dot, "dot")
    if weights.chart != placing.chart:
        raise Misfit("weights")
    if dot not in weights.chart.inner:
        raise Misfit("dot")
    return pull_at(placing, weights, weights.chart.inner.index(dot))


def is_rest(placing, weights):
    """Whether each inner dot is at the mean of its round."""
    want_placing(placing, "placing")
    want_weights(weights, "weights")
    if weights.chart != placing.chart:
        raise Misfit("weights")
    pulls = [pull_at(placing, weights, k) for k in range(len(weights.chart.inner))]
    return all([pull == ((0, 1), (0, 1)) for pull in pulls])
