"""Placings of maps, and whether they are drawings."""

from mapflow.checks import is_fraction, is_list, is_place
from mapflow.errors import BadNumber, BadPlace, BadPlacing, BadText, Misfit
from mapflow.fractions import added, fraction_of, multiplied, sign_of, sum_of, taken
from mapflow.maps import Map, read_lands, ties_of, want_dot, want_land, want_map
from mapflow.papers import Denial, Paper
from mapflow.points import bends_of, is_convex, laps_of, lines_meet, lines_overlap, points_of, turn_of, ways_around
from mapflow.texts import fraction_at, items_of, want_item


def are_places(value):
    """Whether value is a list of places."""
    return is_list(value) and all([is_place(place) for place in value])


def place_of(value):
    """The place, its fractions reduced."""
    x, y = value
    return (fraction_of(x), fraction_of(y))


class Placing:
    """A place for each dot of a map."""

    def __init__(self, chart, places):
        want_map(chart, "chart")
        if not are_places(places):
            raise BadPlace("places")
        if len(places) != chart.dots:
            raise Misfit("places")
        self.chart = chart
        self.places = tuple([place_of(place) for place in places])

    def __eq__(self, other):
        return type(self) is type(other) and self.chart == other.chart and self.places == other.places

    def __str__(self):
        places = [f"{x_up} {x_down} {y_up} {y_down}" for (x_up, x_down), (y_up, y_down) in self.places]
        return " | ".join([str(self.chart), " / ".join(places)])

    @staticmethod
    def read(text):
        """The placing whose text is this one."""
        items = items_of(text)
        lands = read_lands(items, "|")
        # A land takes three items, and one stands between two lands.
        ahead = 4 * len(lands) - 1
        try:
            chart = Map(lands)
        except Misfit:
            raise BadText(0, ahead) from None
        return Placing(chart, read_places(items, ahead + 1, chart.dots))


def read_places(items, begin, many):
    """So many places, which stand from an index on, up to the end of the text."""
    places = []
    for k in range(many):
        at = begin + 5 * k
        places.append((fraction_at(items, at), fraction_at(items, at + 2)))
        want_item(items, at + 4, "/" if k < many - 1 else None)
    return places


def want_placing(value, part):
    """Wants a placing for this parameter."""
    if not isinstance(value, Placing):
        raise BadPlacing(part)


def twice_area(one, two, three):
    """Twice the area of the triangle of three places, below 0 if it is turned over."""
    (x, y), (across, upward), (far, high) = one, two, three
    forth = multiplied(taken(across, x), taken(high, y))
    return taken(forth, multiplied(taken(far, x), taken(upward, y)))


def area_of(placing, land):
    """Twice the area of a land, below 0 if it is turned over."""
    want_placing(placing, "placing")
    a, b, c = want_land(placing.chart, land, "land")
    return twice_area(placing.places[a], placing.places[b], placing.places[c])


def frame_points(placing):
    """The points of the dots of the frame, in their order."""
    return points_of([placing.places[dot] for dot in placing.chart.frame])


class Sound(Paper):
    """A placing is a drawing."""

    def __init__(self):
        Paper.__init__(self, "sound")


class Bent(Denial):
    """At this dot of the frame one does not turn left."""

    def __init__(self, dot):
        Denial.__init__(self, "bent", dot)
        self.dot = self.parts[0]


class Wound(Denial):
    """One turns left at each dot of the frame, and so often round."""

    def __init__(self, laps):
        Denial.__init__(self, "wound", laps)
        self.laps = self.parts[0]


class Fallen(Denial):
    """The frame is convex, and this land is not upright."""

    def __init__(self, land):
        Denial.__init__(self, "fallen", land)
        self.land = self.parts[0]


def judged_placing(placing):
    """Sound if the placing is a drawing, otherwise the Bent, the Wound or the Fallen that tells why not."""
    want_placing(placing, "placing")
    chart = placing.chart
    ring = frame_points(placing)
    bends = bends_of(ring)
    if bends:
        return Bent(chart.frame[bends[0]])
    if laps_of(ring) > 1:
        return Wound(laps_of(ring))
    points = points_of(placing.places)
    for a, b, c in chart.lands:
        if turn_of(points[a], points[b], points[c]) <= 0:
            return Fallen((a, b, c))
    return Sound()


def is_drawing(placing):
    """Whether the placing is a drawing."""
    return bool(judged_placing(placing))


def ties_meet(points, one, other):
    """Whether two ties have a point in common that is not that of a dot of both."""
    common = [dot for dot in one if dot in other]
    if not common:
        return lines_meet(points[one[0]], points[one[1]], points[other[0]], points[other[1]])
    corner = common[0]
    return lines_overlap(points[corner], points[sum(one) - corner], points[sum(other) - corner])


def crossing_of(placing):
    """The least pair of ties that meet, None without one."""
    want_placing(placing, "placing")
    points = points_of(placing.places)
    ties = ties_of(placing.chart)
    for k, one in enumerate(ties):
        for other in ties[k + 1:]:
            if ties_meet(points, one, other):
                return (one, other)
    return None


def is_inside(placing, dot):
    """Whether an inner dot lies to the left of each way of the frame, which is convex."""
    want_placing(placing, "placing")
    want_dot(dot, "dot")
    if not is_convex(frame_points(placing)):
        raise Misfit("placing")
    if dot not in placing.chart.inner:
        raise Misfit("dot")
    *ring, point = points_of([placing.places[other] for other in (*placing.chart.frame, dot)])
    return all([turn_of(one, two, point) > 0 for one, two in ways_around(ring)])


def spread(placing, six):
    """The placing with each place (x, y) at (a x + b y + c, d x + e y + f), six being a to f."""
    want_placing(placing, "placing")
    if not is_list(six) or len(six) != 6 or not all([is_fraction(number) for number in six]):
        raise BadNumber("six")
    a, b, c, d, e, f = six
    if sign_of(taken(multiplied(a, e), multiplied(b, d))) <= 0:
        raise Misfit("six")
    places = []
    for x, y in placing.places:
        across = sum_of([multiplied(a, x), multiplied(b, y), c])
        upward = added(multiplied(d, x), added(multiplied(e, y), f))
        places.append((across, upward))
    return Placing(placing.chart, places)
