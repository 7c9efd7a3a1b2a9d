"""The shelf: answers put aside, to be put together with and compared."""

from swaybits.common import NOTHING_THERE, NOT_RIGHT, NO_SUCH, PLACES, lowest, refused
from swaybits.comparing import byparts
from swaybits.making import made
from swaybits.mishearing import stays
from swaybits.swaying import even, together

MOST_WAY = 2
MOST_MEASURE = 3


def tell_put(desk, given):
    """Puts the answer at a place; 1 if something stood there, else 0."""
    place = given[0]
    if place >= PLACES:
        return refused(NO_SUCH)
    stood = desk.shelf[place]
    places = list(desk.shelf)
    places[place] = desk.says
    desk.shelf = tuple(places)
    return [0 if stood is None else 1]


def tell_take(desk, given):
    """Makes what stands at a place the answer."""
    place = given[0]
    if place >= PLACES:
        return refused(NO_SUCH)
    if desk.shelf[place] is None:
        return refused(NOTHING_THERE)
    return made(desk, desk.shelf[place])


def joined(way, one, other):
    """What is said, 1 or 0, if two that say this are put together."""
    if way == 0:
        return one & other
    if way == 1:
        return one | other
    return one ^ other


def tell_join(desk, given):
    """Puts the answer together with what stands at a place."""
    way, place = given
    if place >= PLACES:
        return refused(NO_SUCH)
    if way > MOST_WAY:
        return refused(NOT_RIGHT)
    other = desk.shelf[place]
    if other is None:
        return refused(NOTHING_THERE)
    return made(desk, [joined(way, said, other[word]) for word, said in enumerate(desk.says)])


def tell_same(desk, given):
    """To which part of all words both say the same."""
    place = given[0]
    if place >= PLACES:
        return refused(NO_SUCH)
    other = desk.shelf[place]
    if other is None:
        return refused(NOTHING_THERE)
    like = [word for word, said in enumerate(desk.says) if said == other[word]]
    return [0] + lowest(len(like), len(desk.says))


def measured(desk, says, measure):
    """A measure of an answer, by the bits and the chance that the desk has."""
    if measure == 0:
        return even(says)
    if measure == 1:
        return together(desk.bits, says)
    if measure == 2:
        return stays(desk.bits, says, desk.chance)
    return byparts(desk.bits, says)


def greater(one, other):
    """Whether one fraction is greater than another one."""
    return one[0] * other[1] > other[0] * one[1]


def tell_more(desk, given):
    """1 if the answer's measure is greater than that of what stands at a place, else 0; then both."""
    measure, place = given
    if place >= PLACES:
        return refused(NO_SUCH)
    if measure > MOST_MEASURE:
        return refused(NOT_RIGHT)
    if desk.shelf[place] is None:
        return refused(NOTHING_THERE)
    own = measured(desk, desk.says, measure)
    other = measured(desk, desk.shelf[place], measure)
    return [1 if greater(own, other) else 0] + own + other


def tell_best(desk, given):
    """The first place of those at which a measure is greatest, and how great."""
    measure = given[0]
    if measure > MOST_MEASURE:
        return refused(NOT_RIGHT)
    best = None
    found = []
    for place, says in enumerate(desk.shelf):
        if says is not None:
            share = measured(desk, says, measure)
            if best is None or greater(share, found):
                best = place
                found = share
    if best is None:
        return refused(NOTHING_THERE)
    return [best] + found


def tell_shelf(desk, given):
    """At how many places an answer stands; then for each its yes words, -1 for none."""
    counts = [-1 if says is None else sum(says) for says in desk.shelf]
    return [len([count for count in counts if count >= 0])] + counts


SHELVING = {
    "put": tell_put,
    "take": tell_take,
    "join": tell_join,
    "same": tell_same,
    "more": tell_more,
    "best": tell_best,
    "shelf": tell_shelf,
}
