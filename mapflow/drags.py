"""Single dots dragged within their kernels."""

from mapflow.drawings import Placing, is_drawing, place_of, want_placing
from mapflow.errors import Misfit
from mapflow.fractions import over_one_down, reduced
from mapflow.maps import want_dot
from mapflow.points import line_along, meeting_of, points_of, turn_of, ways_around
from mapflow.spots import want_place


def want_inner(placing, dot):
    """Wants that the placing is a drawing, and the dot an inner one of its map."""
    if not is_drawing(placing):
        raise Misfit("placing")
    if dot not in placing.chart.inner:
        raise Misfit("dot")


def want_drag(placing, dot, place):
    """Wants a drawing, an inner dot of it, and a place."""
    want_placing(placing, "placing")
    want_dot(dot, "dot")
    want_place(place)
    want_inner(placing, dot)


def corner_points(lines):
    """The points (x, y, times) of two of these lines that are on the left of all of them, or on them."""
    found = []
    for k, line in enumerate(lines):
        for other in lines[k + 1:]:
            point = meeting_of(line, other)
            if point is not None and all([a * point[0] + b * point[1] + c * point[2] >= 0 for a, b, c in lines]):
                found.append(point)
    return found


def ring_from_least(places):
    """The corners of a convex region, counterclockwise from that with the least x, of these the least y."""
    told = sorted(list(zip(points_of(places), places)))
    (first, begin), *between, (last, end) = told
    below = [place for point, place in between if turn_of(first, last, point) < 0]
    above = [place for point, place in reversed(between) if turn_of(first, last, point) > 0]
    return (begin, *below, end, *above)


def kernel_of(placing, dot):
    """The corners of the kernel of an inner dot."""
    want_placing(placing, "placing")
    want_dot(dot, "dot")
    want_inner(placing, dot)
    ring = [placing.places[other] for other in placing.chart.rounds[dot]]
    xs, across = over_one_down([x for x, _ in ring])
    ys, upward = over_one_down([y for _, y in ring])
    lines = [line_along(one, two) for one, two in ways_around(list(zip(xs, ys)))]
    # Where lines meet within the kernel each of them holds it on one side: so it has a corner there.
    found = {(reduced(x, times * across), reduced(y, times * upward)): True for x, y, times in corner_points(lines)}
    return ring_from_least(list(found))


def sides_of(placing, dot, place):
    """For each tie of the round of a dot: twice the areas with the dot, and with the place instead, by integers."""
    told = [placing.places[other] for other in placing.chart.rounds[dot]]
    *ring, begin, end = points_of([*told, placing.places[dot], place_of(place)])
    return [(turn_of(one, two, begin), turn_of(one, two, end)) for one, two in ways_around(ring)]


def stands_within(placing, dot, place):
    """Whether a place is strictly within the kernel of an inner dot."""
    return all([side > 0 for _, side in sides_of(placing, dot, place)])


def may_stand(placing, dot, place):
    """Whether an inner dot may stand at a place."""
    want_drag(placing, dot, place)
    return stands_within(placing, dot, place)


def dragged(placing, dot, place):
    """The drawing with an inner dot at a place."""
    want_drag(placing, dot, place)
    if not stands_within(placing, dot, place):
        raise Misfit("place")
    places = list(placing.places)
    places[dot] = place
    return Placing(placing.chart, places)


def reach_of(placing, dot, place):
    """The least share of the straight way of a dot to a place at which it may not stand, 1 if there is none below 1."""
    want_drag(placing, dot, place)
    up, down = 1, 1
    for begin, end in sides_of(placing, dot, place):
        # The side goes evenly from begin, above 0, to end: it is 0 at the share begin / (begin - end).
        if end < 0 and begin * down < up * (begin - end):
            up, down = begin, begin - end
    return reduced(up, down)
