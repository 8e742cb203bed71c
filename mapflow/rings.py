"""Rings of drawings, which shrink to one that stands, and the middle of drawings."""

from mapflow.checks import is_fraction_to, is_within
from mapflow.drawings import want_placing
from mapflow.errors import BadNumber
from mapflow.flows import corners_of, want_framed_alike, want_some
from mapflow.fractions import fraction_of, taken
from mapflow.tellback import mean_weights, mixed_weights, weights_of
from mapflow.weights import rest_within, want_solvable

MOST_DRAWINGS = 8
MOST_FINE = 12


def want_ring(drawings):
    """Wants that these placings are drawings of one map in one frame, between which weights can be solved."""
    want_framed_alike(drawings, drawings[0], "drawings")
    want_solvable(drawings[0].chart)


def want_centred(drawings, centre):
    """Wants that these placings are drawings that make a ring, and the centre is one of their map in their frame."""
    want_framed_alike(drawings, drawings[0], "drawings")
    # Too many inner dots are told behind all that does not fit: so the centre comes ahead of them.
    want_framed_alike([centre], drawings[0], "centre")
    want_solvable(drawings[0].chart)


def want_moment(drawings, moment):
    """Wants a moment of the ring of these drawings."""
    if not is_fraction_to(moment, len(drawings)):
        raise BadNumber("moment")


def weights_along(told, moment):
    """The weights of a ring at a moment; told has the weights of each drawing."""
    up, down = fraction_of(moment)
    begin = up // down
    many = len(told)
    # Behind the last drawing comes the first one again, and at the last moment the ring is there.
    return mixed_weights(told[begin % many], told[(begin + 1) % many], taken(moment, begin))


def ring_at(drawings, moment):
    """The placing of the ring of drawings at a moment."""
    want_some(drawings, 1, MOST_DRAWINGS)
    want_moment(drawings, moment)
    want_ring(drawings)
    told = [weights_of(drawing) for drawing in drawings]
    return rest_within(weights_along(told, moment), corners_of(drawings[0]))


def shrunk_at(drawings, centre, share, moment):
    """The placing of the ring of drawings, shrunk by a share to its centre, at a moment."""
    want_some(drawings, 1, MOST_DRAWINGS)
    want_placing(centre, "centre")
    if not is_fraction_to(share, 1):
        raise BadNumber("share")
    want_moment(drawings, moment)
    want_centred(drawings, centre)
    told = [weights_of(drawing) for drawing in drawings]
    weights = mixed_weights(weights_along(told, moment), weights_of(centre), share)
    return rest_within(weights, corners_of(centre))


def films_of(drawings, centre, many, few):
    """The films of the ring of drawings, shrunk to its centre by the shares 0, 1 / many, .., 1."""
    want_some(drawings, 1, MOST_DRAWINGS)
    want_placing(centre, "centre")
    for number, part in ((many, "many"), (few, "few")):
        if not is_within(number, 1, MOST_FINE):
            raise BadNumber(part)
    want_centred(drawings, centre)
    told, last, corners = [weights_of(drawing) for drawing in drawings], weights_of(centre), corners_of(centre)
    along = [weights_along(told, (step, few)) for step in range(few * len(drawings) + 1)]
    films = []
    for step in range(many + 1):
        shrunk = [mixed_weights(weights, last, (step, many)) for weights in along]
        films.append(tuple([rest_within(weights, corners) for weights in shrunk]))
    return tuple(films)


def middle_of(drawings):
    """The middle of drawings: the rest of the mean of their weights."""
    want_some(drawings, 1, MOST_DRAWINGS)
    want_ring(drawings)
    return rest_within(mean_weights([weights_of(drawing) for drawing in drawings]), corners_of(drawings[0]))
