"""Which papers on all moments of a flow are right."""

from mapflow.checks import is_list
from mapflow.flows import want_flow, want_placings
from mapflow.fractions import over_one_down
from mapflow.moments import Always, above_all
from mapflow.polys import is_poly, poly_of
from mapflow.tellback import weights_of
from mapflow.wholes import area_whole, cut, sum_whole, times_whole
from mapflow.zeros import is_above_on


def is_pair(value):
    """Whether value is a pair of polynomials."""
    return is_list(value) and len(value) == 2 and is_poly(value[0]) and is_poly(value[1])


def are_pairs(value, many):
    """Whether value is a list of so many pairs of polynomials."""
    return is_list(value) and len(value) == many and all([is_pair(item) for item in value])


def is_mean(first, last, near, poly):
    """Whether a polynomial is always the mean of those near it, by weights that go from the first to the last."""
    ups, down = over_one_down([*first, *last])
    total = []
    for begin, end, other in zip(ups[:len(first)], ups[len(first):], near):
        total = sum_whole(total, times_whole(cut([begin, end - begin]), other))
    return total == [down * number for number in poly]


def are_means(first, last, polys):
    """Whether each inner dot is the mean of its round at all moments; polys has a polynomial for each dot."""
    chart = first.chart
    for dot, begin, end in zip(chart.inner, first.rows, last.rows):
        if not is_mean(begin, end, [polys[near] for near in chart.rounds[dot]], polys[dot]):
            return False
    return True


def are_upright(chart, xs, ys):
    """Whether the area polynomials of all lands are above 0 from 0 to 1; xs and ys have a polynomial for each dot."""
    return all([is_above_on(area_whole(xs, ys, land), (0, 1), (1, 1)) for land in chart.lands])


def shows_flow(one, other, value):
    """Whether value is a right paper on all moments of the flow from one to other."""
    want_placings(one, other)
    want_flow(one, other)
    if type(value) is not Always or not is_poly(value.down) or not are_pairs(value.places, len(one.chart.inner)):
        return False
    down, places = poly_of(value.down), [(poly_of(x), poly_of(y)) for x, y in value.places]
    (xs, _), (ys, _) = above_all(one, 0, down, places), above_all(one, 1, down, places)
    first, last = weights_of(one), weights_of(other)
    if not are_means(first, last, xs) or not are_means(first, last, ys):
        return False
    ups, _ = over_one_down(down)
    return is_above_on(ups, (0, 1), (1, 1)) and are_upright(one.chart, xs, ys)
