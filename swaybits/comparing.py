"""Three compared: the bits are voters, each of whom puts three things in order."""

from swaybits.common import NONE_FOUND, NOT_RIGHT, TOO_MANY, bits_set, lowest, power, refused
from swaybits.swaying import all_parts

MOST_VOTERS = 4
MOST_THING = 2
COMPARISONS = 3

# An order's number is its place here; for each comparison (the first thing with
# the second, the second with the third, the third with the first) it tells 1 if
# the order puts the former one ahead. The two orders with a like first thing
# stand together.
ORDERS = ((1, 1, 0), (1, 0, 0), (0, 1, 0), (0, 1, 1), (1, 0, 1), (0, 0, 1))


def vote_right(bits, vote):
    """Whether this is an order of each voter."""
    return len(vote) == bits and all([order < len(ORDERS) for order in vote])


def outcome(says, vote):
    """For each comparison 1 if the former thing is ahead by the answer, else 0."""
    found = []
    for comparison in range(COMPARISONS):
        word = 0
        for voter, order in enumerate(vote):
            word = word | (ORDERS[order][comparison] << voter)
        found.append(says[word])
    return tuple(found)


def comes_round(found):
    """Whether all three comparisons are yes, or all are no."""
    return sum(found) == 0 or sum(found) == COMPARISONS


def order_of(found):
    """The order that comes by the comparisons; none if a round comes."""
    for order in range(len(ORDERS)):
        if ORDERS[order] == found:
            return order
    return None


def all_votes(voters):
    """Every vote; where two differ first, the one with the lesser number first."""
    votes = [[]]
    for voter in range(voters):
        longer = []
        for vote in votes:
            longer.extend([vote + [order] for order in range(len(ORDERS))])
        votes = longer
    return votes


def all_outcomes(bits, says):
    """The comparisons by every vote, in the order of the votes."""
    return [outcome(says, vote) for vote in all_votes(bits)]


def tell_vote(desk, given):
    """1 if a round comes, else 0; then for each comparison who is ahead."""
    vote = given[0]
    if not vote_right(desk.bits, vote):
        return refused(NOT_RIGHT)
    found = outcome(desk.says, vote)
    return [1 if comes_round(found) else 0] + list(found)


def tell_order(desk, given):
    """The order that comes."""
    vote = given[0]
    if not vote_right(desk.bits, vote):
        return refused(NOT_RIGHT)
    order = order_of(outcome(desk.says, vote))
    if order is None:
        return refused(NONE_FOUND)
    return [order]


def first_thing(order):
    """The thing that an order puts first."""
    return order // 2


def tell_winner(desk, given):
    """The thing that's ahead of both others."""
    vote = given[0]
    if not vote_right(desk.bits, vote):
        return refused(NOT_RIGHT)
    order = order_of(outcome(desk.says, vote))
    if order is None:
        return refused(NONE_FOUND)
    return [first_thing(order)]


def rounds(bits, says):
    """By how many votes a round comes."""
    return len([found for found in all_outcomes(bits, says) if comes_round(found)])


def tell_rounds(desk, given):
    """By how many votes a round comes."""
    return [rounds(desk.bits, desk.says)]


def tell_noround(desk, given):
    """How likely no round comes, counted over all votes."""
    votes = power(len(ORDERS), desk.bits)
    return [0] + lowest(votes - rounds(desk.bits, desk.says), votes)


def byparts(bits, says):
    """How likely no round comes, reckoned by the parts of the answer's sets."""
    # All counts so many times over that each power of 1 by 3 is a whole number.
    certain = len(says) * len(says) * power(3, bits)
    total = 0
    for chosen, share in enumerate(all_parts(says)):
        size = bits_set(chosen)
        total = total + share * share * power(-1, size) * power(3, bits - size)
    return lowest(3 * (certain - total), 4 * certain)


def tell_byparts(desk, given):
    """How likely no round comes, by parts."""
    return [0] + byparts(desk.bits, desk.says)


def tell_isodd(desk, given):
    """1 if with all bits turned the answer is always the other one, else 0."""
    last = len(desk.says) - 1
    return [1 if all([said != desk.says[last - word] for word, said in enumerate(desk.says)]) else 0]


def tell_alike(desk, given):
    """1 if words with as many bits set are answered the same, else 0."""
    # Each word is held against the least one with as many bits set.
    like = [said == desk.says[(1 << bits_set(word)) - 1] for word, said in enumerate(desk.says)]
    return [1 if all(like) else 0]


def tell_whose(desk, given):
    """The bit whose own the answer is, then 1; or whose opposite, then 0."""
    size = len(desk.says)
    for bit in range(desk.bits):
        count = sum([1 for word, said in enumerate(desk.says) if said == (word >> bit) & 1])
        if count == size:
            return [bit, 1]
        if count == 0:
            return [bit, 0]
    return refused(NONE_FOUND)


def tell_first(desk, given):
    """How many voters; then the first vote by which a round comes."""
    for vote in all_votes(desk.bits):
        if comes_round(outcome(desk.says, vote)):
            return [desk.bits] + vote
    return refused(NONE_FOUND)


def tell_wins(desk, given):
    """By how many votes the thing wins."""
    thing = given[0]
    if thing > MOST_THING:
        return refused(NOT_RIGHT)
    orders = [order_of(found) for found in all_outcomes(desk.bits, desk.says)]
    return [len([order for order in orders if order is not None and first_thing(order) == thing])]


COMPARING = {
    "vote": tell_vote,
    "winner": tell_winner,
    "order": tell_order,
    "rounds": tell_rounds,
    "noround": tell_noround,
    "byparts": tell_byparts,
    "isodd": tell_isodd,
    "alike": tell_alike,
    "whose": tell_whose,
    "first": tell_first,
    "wins": tell_wins,
}


def compared(desk, name, given):
    """What one of these calls is answered; too many voters come ahead of all."""
    if desk.bits > MOST_VOTERS:
        return refused(TOO_MANY)
    return COMPARING[name](desk, given)
