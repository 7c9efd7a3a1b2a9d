"""Rises: how likely yes is if each bit is set by a chance, and how fast that rises.

How likely a thing is stands here as a whole number of parts: the lower number
of the chance, multiplied with itself once for each bit, is how many parts make
a certainty. So nothing is a fraction before it is told.
"""

from swaybits.common import NONE_FOUND, NO_SUCH, NOT_RIGHT, bits_set, lowest, power, refused
from swaybits.swaying import swayed

MOST_LOWER = 100
MOST_TRIES = 6


def lower_right(lower):
    """Whether chances are told by this number."""
    return 1 <= lower and lower <= MOST_LOWER


def chance_right(upper, lower):
    """Whether the two numbers are a chance."""
    return lower_right(lower) and upper <= lower


def sizes(bits, says):
    """To how many words with 0, 1, 2 .. bits set it says yes."""
    counts = [0 for size in range(bits + 1)]
    for word, said in enumerate(says):
        size = bits_set(word)
        counts[size] = counts[size] + said
    return counts


def counts_of(desk):
    """To how many words with 0, 1, 2 .. bits set the desk says yes."""
    return sizes(desk.bits, desk.says)


def all_set(counts, upper, lower):
    """How likely the words are, of which there are so many of each size."""
    bits = len(counts) - 1
    likely = 0
    for size, count in enumerate(counts):
        likely = likely + count * power(upper, size) * power(lower - upper, bits - size)
    return likely


def tell_yes(desk, given):
    """How likely yes is."""
    upper, lower = given
    if not chance_right(upper, lower):
        return refused(NOT_RIGHT)
    return [0] + lowest(all_set(counts_of(desk), upper, lower), power(lower, desk.bits))


def tell_swayat(desk, given):
    """How likely the words are at which a bit sways."""
    bit, upper, lower = given
    if bit >= desk.bits:
        return refused(NO_SUCH)
    if not chance_right(upper, lower):
        return refused(NOT_RIGHT)
    words = swayed(desk.says, bit)
    counts = sizes(desk.bits, [1 if word in words else 0 for word in range(len(desk.says))])
    return [0] + lowest(all_set(counts, upper, lower), power(lower, desk.bits))


def fast(counts, upper, lower):
    """How fast it rises, in parts with one bit less than a certainty has."""
    bits = len(counts) - 1
    rest = lower - upper
    rises = 0
    for size, count in enumerate(counts):
        if size > 0:
            rises = rises + count * size * power(upper, size - 1) * power(rest, bits - size)
        if size < bits:
            rises = rises - count * (bits - size) * power(upper, size) * power(rest, bits - size - 1)
    return rises


def tell_slope(desk, given):
    """How fast it rises at a chance."""
    upper, lower = given
    if not chance_right(upper, lower):
        return refused(NOT_RIGHT)
    return [0] + lowest(fast(counts_of(desk), upper, lower), power(lower, desk.bits - 1))


def tell_sizes(desk, given):
    """How many sizes of words there are; then to how many of each it says yes."""
    counts = counts_of(desk)
    return [len(counts)] + counts


def least_for(counts, lower, due, whole):
    """The least upper number by which yes is as likely as due by whole, or more; or none."""
    certain = power(lower, len(counts) - 1)
    for upper in range(lower + 1):
        if all_set(counts, upper, lower) * whole >= due * certain:
            return upper
    return None


def tell_half(desk, given):
    """The least upper number by which yes is as likely as 1 by 2, or more."""
    lower = given[0]
    if not lower_right(lower):
        return refused(NOT_RIGHT)
    least = least_for(counts_of(desk), lower, 1, 2)
    if least is None:
        return refused(NONE_FOUND)
    return [least]


def tell_width(desk, given):
    """How far it is from the least for one chance to the least for another; then both."""
    lower, low, high, whole = given
    if not (lower_right(lower) and chance_right(low, whole) and chance_right(high, whole) and low <= high):
        return refused(NOT_RIGHT)
    counts = counts_of(desk)
    start = least_for(counts, lower, low, whole)
    end = least_for(counts, lower, high, whole)
    if start is None or end is None:
        return refused(NONE_FOUND)
    return [end - start, start, end]


def once(likely, certain, times):
    """How likely a thing comes once, at least, in so many times: parts, and what is certain."""
    all_times = power(certain, times)
    return [all_times - power(certain - likely, times), all_times]


def tell_tries(desk, given):
    """How likely yes is with each bit tried so often; then with all bits tried together."""
    upper, lower, times = given
    if not chance_right(upper, lower) or times < 1 or times > MOST_TRIES:
        return refused(NOT_RIGHT)
    counts = counts_of(desk)
    each_upper, each_lower = once(upper, lower, times)
    each = lowest(all_set(counts, each_upper, each_lower), power(each_lower, desk.bits))
    anew_upper, anew_lower = once(all_set(counts, upper, lower), power(lower, desk.bits), times)
    return [0] + each + lowest(anew_upper, anew_lower)


def tell_steepest(desk, given):
    """The first upper number of those by which it rises fastest, and how fast."""
    lower = given[0]
    if not lower_right(lower):
        return refused(NOT_RIGHT)
    counts = counts_of(desk)
    rises = [fast(counts, upper, lower) for upper in range(lower + 1)]
    fastest = max(rises)
    return [rises.index(fastest)] + lowest(fastest, power(lower, desk.bits - 1))


def tell_fixed(desk, given):
    """How many upper numbers there are by which yes is just as likely as that; and these."""
    lower = given[0]
    if not lower_right(lower):
        return refused(NOT_RIGHT)
    counts = counts_of(desk)
    share = power(lower, desk.bits - 1)
    fixed = [upper for upper in range(lower + 1) if all_set(counts, upper, lower) == upper * share]
    return [len(fixed)] + fixed


RISES = {
    "yes": tell_yes,
    "swayat": tell_swayat,
    "slope": tell_slope,
    "sizes": tell_sizes,
    "half": tell_half,
    "width": tell_width,
    "tries": tell_tries,
    "steepest": tell_steepest,
    "fixed": tell_fixed,
}
