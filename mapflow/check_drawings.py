"""Which papers on placings are right."""

from mapflow.checks import is_integer
from mapflow.drawings import Bent, Fallen, Sound, Wound, frame_points, is_drawing, want_placing
from mapflow.maps import is_dot, land_of
from mapflow.points import bends_of, is_convex, laps_of, points_of, turn_of


def shows_placing(placing, value):
    """Whether value is a right paper on whether the placing is a drawing."""
    want_placing(placing, "placing")
    if type(value) is Sound:
        return is_drawing(placing)
    if type(value) is Bent:
        return is_bent(placing, value.dot)
    if type(value) is Wound:
        return is_wound(placing, value.laps)
    if type(value) is Fallen:
        return is_fallen(placing, value.land)
    return False


def is_bent(placing, dot):
    """Whether it is a dot of the frame at which one does not turn left."""
    bent = [placing.chart.frame[k] for k in bends_of(frame_points(placing))]
    return is_dot(dot) and dot in bent


def is_wound(placing, laps):
    """Whether one turns left at each dot of the frame, and so often round, more than once."""
    ring = frame_points(placing)
    return is_integer(laps) and laps > 1 and not bends_of(ring) and laps_of(ring) == laps


def is_fallen(placing, land):
    """Whether the frame is convex, and it is a land that is not upright."""
    told = land_of(placing.chart, land)
    if told is None or not is_convex(frame_points(placing)):
        return False
    one, two, three = points_of([placing.places[dot] for dot in told])
    return turn_of(one, two, three) <= 0
