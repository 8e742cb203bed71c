"""Points of the plane, told by integers: which way one turns, and whether straight lines meet."""

from mapflow.fractions import over_one_down


def points_of(places):
    """The places as pairs of integers, each x multiplied by one number above 0, each y by another one."""
    # Ways that turn left, and lines that meet, stay so, and integers need not be reduced.
    across, _ = over_one_down([x for x, _ in places])
    upward, _ = over_one_down([y for _, y in places])
    return list(zip(across, upward))


def turn_of(one, two, three):
    """Twice the area of three points, above 0 if one turns left, from one by two to three."""
    return (two[0] - one[0]) * (three[1] - one[1]) - (three[0] - one[0]) * (two[1] - one[1])


def ways_around(ring):
    """The ways from each point of a ring to the next one, from the last one to the first."""
    return list(zip(ring, [*ring[1:], ring[0]]))


def bends_of(ring):
    """The indexes in a ring of points of those at which one does not turn left."""
    ahead, behind = [ring[-1], *ring[:-1]], [*ring[1:], ring[0]]
    return [k for k in range(len(ring)) if turn_of(ahead[k], ring[k], behind[k]) <= 0]


def laps_of(ring):
    """How often one turns round in a ring of points, if one turns left at each."""
    ups = [two[1] > one[1] for one, two in ways_around(ring)]
    # Each turn is less than half a round: so there is a way up in each round, and one comes to pointing up just once.
    return len([k for k in range(len(ups)) if ups[k] and not ups[k - 1]])


def is_convex(ring):
    """Whether one turns left at each point of a ring, and just once round."""
    return not bends_of(ring) and laps_of(ring) == 1


def sides_differ(one, two, three, four):
    """Whether the line through one and two leaves three and four not on one side."""
    left, right = turn_of(one, two, three), turn_of(one, two, four)
    return not (left > 0 and right > 0) and not (left < 0 and right < 0)


def spans_meet(one, two, three, four):
    """Whether the numbers from one to two and those from three to four have one in common."""
    return max(one, two) >= min(three, four) and max(three, four) >= min(one, two)


def lines_meet(one, two, three, four):
    """Whether the straight lines from one to two and from three to four have a point in common."""
    for k in (0, 1):
        if not spans_meet(one[k], two[k], three[k], four[k]):
            return False
    return sides_differ(one, two, three, four) and sides_differ(three, four, one, two)


def lines_overlap(corner, one, two):
    """Whether the straight lines from a corner to one and to two have more than the corner in common."""
    if turn_of(corner, one, two) != 0:
        return False
    # Both lead the same way if they do so across or upward; a line of no length leads nowhere.
    return any([(one[k] - corner[k]) * (two[k] - corner[k]) > 0 for k in (0, 1)])


def line_along(one, two):
    """The line through two points: (a, b, c) such that a x + b y + c is the turn from one by two to (x, y)."""
    a, b = one[1] - two[1], two[0] - one[0]
    return (a, b, -a * one[0] - b * one[1])


def meeting_of(line, other):
    """The point of two lines, as (x, y, times): both are taken times an integer above 0; None if they go alike."""
    (a, b, c), (d, e, f) = line, other
    times = a * e - b * d
    if times == 0:
        return None
    sign = 1 if times > 0 else -1
    return (sign * (b * f - c * e), sign * (c * d - a * f), abs(times))
