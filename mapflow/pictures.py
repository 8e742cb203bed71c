"""Pictures of drawings by signs."""

from mapflow.checks import is_fraction, is_within
from mapflow.drawings import is_drawing, want_placing
from mapflow.errors import BadNumber, Misfit
from mapflow.flows import MOST_STEPS, film_of, want_alike, want_placings
from mapflow.fractions import fraction_of, over_one_down, sign_of
from mapflow.spots import lines_of, spot_among

MOST_WIDE = 80
MOST_TALL = 60
LETTERS = "abcdefghijklmnopqrstuvwxyz"


def want_size(wide, tall):
    """Wants how many columns and rows a picture can have."""
    if not is_within(wide, 1, MOST_WIDE):
        raise BadNumber("wide")
    if not is_within(tall, 1, MOST_TALL):
        raise BadNumber("tall")


def samples_along(placing, axis, many):
    """For x (axis 0) or y (axis 1): where the dots stand, the middles of so many parts of the box, and their measure.

    All are integers. Those of the dots may be long, those of the middles are not: taken times the measure they tell
    places as those of the dots do.
    """
    ups, down = over_one_down([place[axis] for place in placing.places])
    ends, below = over_one_down([placing.places[dot][axis] for dot in placing.chart.frame])
    low, high = min(ends), max(ends)
    middles = [2 * many * low + (high - low) * (2 * k + 1) for k in range(many)]
    return ([2 * many * up for up in ups], middles, down // below)


def spots_of(placing, wide, tall):
    """The rows, from the top, of what spot_among tells of the samples."""
    xs, across, broad = samples_along(placing, 0, wide)
    ys, upward, high = samples_along(placing, 1, tall)
    sides = []
    for lines in lines_of(placing.chart.lands, list(zip(xs, ys))):
        sides.append([(a * broad, b * high, c) for a, b, c in lines])
    return [[spot_among(sides, (x, y)) for x in across] for y in reversed(upward)]


def text_of(rows):
    """The text of rows of signs."""
    return " ".join(["".join(row) for row in rows])


def sign_of_spot(spot):
    """The sign of a sample, told by its spot."""
    if spot is None:
        return "."
    k, parts = spot
    # On a tie, or at a dot, some dot of the land takes no part.
    return "*" if 0 in parts else LETTERS[k % len(LETTERS)]


def picture_within(placing, wide, tall):
    """The picture of a drawing."""
    return text_of([[sign_of_spot(spot) for spot in row] for row in spots_of(placing, wide, tall)])


def picture_of(placing, wide, tall):
    """The picture of a drawing, in which each land has a letter."""
    want_placing(placing, "placing")
    want_size(wide, tall)
    if not is_drawing(placing):
        raise Misfit("placing")
    return picture_within(placing, wide, tall)


def steps_to(mean, down, side):
    """The integer at or next below mean / down, divided by side."""
    up, below = side
    return mean * below // (down * up)


def painted_sign(spot, lands, axes, side):
    """The sign of a sample, told by its spot; axes has for x and for y where the dots stand that are painted."""
    if spot is None:
        return "."
    k, parts = spot
    steps = []
    for ups, down in axes:
        mean = sum([ups[dot] * part for dot, part in zip(lands[k], parts)])
        steps.append(steps_to(mean, sum(parts) * down, side))
    return "#" if sum(steps) % 2 == 0 else "+"


def painted_of(one, other, side, wide, tall):
    """A chequered picture, painted on one and seen on other."""
    want_placings(one, other)
    if not is_fraction(side) or sign_of(side) <= 0:
        raise BadNumber("side")
    want_size(wide, tall)
    want_alike(one, other)
    lands, told = one.chart.lands, fraction_of(side)
    axes = [over_one_down([place[axis] for place in one.places]) for axis in (0, 1)]
    return text_of([[painted_sign(spot, lands, axes, told) for spot in row] for row in spots_of(other, wide, tall)])


def film_pictures(one, other, many, wide, tall):
    """The pictures of the film of the flow from one to other."""
    want_placings(one, other)
    if not is_within(many, 1, MOST_STEPS):
        raise BadNumber("many")
    want_size(wide, tall)
    return tuple([picture_within(placing, wide, tall) for placing in film_of(one, other, many)])
