"""Misheard: what is said when each bit may be turned by a chance.

How likely a thing is stands here as a whole number of parts: the lower number
of the chance, multiplied with itself once for each bit, is how many parts make
a certainty. So nothing is a fraction before it is told.
"""

from swaybits.common import NOT_RIGHT, bits_set, lowest, power, refused

MOST_LOWER = 20


def chance_right(given):
    """Whether the two numbers given are a chance from 0 to 1 by 2."""
    upper, lower = given
    return 1 <= lower and lower <= MOST_LOWER and 2 * upper <= lower


def tell_chance(desk, given):
    """Bits are misheard by this chance from now on."""
    if not chance_right(given):
        return refused(NOT_RIGHT)
    # Kept in its lowest numbers, so that a like chance is told alike.
    desk.chance = tuple(lowest(given[0], given[1]))
    return [0]


def whole(bits, chance):
    """How many parts make a certainty."""
    return power(chance[1], bits)


def heard(bits, chance):
    """How likely a word is heard as one it differs from in 0, 1, 2 .. bits."""
    upper, lower = chance
    return [power(upper, differ) * power(lower - upper, bits - differ) for differ in range(bits + 1)]


def tell_heard(desk, given):
    """How likely one word is heard as another one."""
    meant, other = given
    if meant >= len(desk.says) or other >= len(desk.says):
        return refused(NOT_RIGHT)
    counts = heard(desk.bits, desk.chance)
    return [0] + lowest(counts[bits_set(meant ^ other)], whole(desk.bits, desk.chance))


def yes_said(says, counts, meant):
    """How likely yes is said to a word that's meant."""
    return sum([counts[bits_set(meant ^ word)] for word, said in enumerate(says) if said == 1])


def all_yes_said(bits, says, chance):
    """How likely yes is said to each word."""
    counts = heard(bits, chance)
    return [yes_said(says, counts, meant) for meant in range(len(says))]


def all_rightly(bits, says, chance):
    """For each word, how likely the answer to it is said as it is."""
    certain = whole(bits, chance)
    yes = all_yes_said(bits, says, chance)
    return [yes[word] if said == 1 else certain - yes[word] for word, said in enumerate(says)]


def tell_soft(desk, given):
    """How likely yes is said to a word."""
    meant = given[0]
    if meant >= len(desk.says):
        return refused(NOT_RIGHT)
    likely = all_yes_said(desk.bits, desk.says, desk.chance)[meant]
    return [0] + lowest(likely, whole(desk.bits, desk.chance))


def stays(bits, says, chance):
    """How likely an answer stays, if bits are misheard by this chance."""
    return lowest(sum(all_rightly(bits, says, chance)), len(says) * whole(bits, chance))


def tell_stays(desk, given):
    """How likely the answer stays."""
    return [0] + stays(desk.bits, desk.says, desk.chance)


def tell_agree(desk, given):
    """How likely two who hear it agree."""
    certain = whole(desk.bits, desk.chance)
    likely = all_yes_said(desk.bits, desk.says, desk.chance)
    both = [yes * yes + (certain - yes) * (certain - yes) for yes in likely]
    return [0] + lowest(sum(both), len(desk.says) * certain * certain)


def tell_worst(desk, given):
    """The first word of those least likely answered as it is, and how likely."""
    rightly = all_rightly(desk.bits, desk.says, desk.chance)
    least = min(rightly)
    return [rightly.index(least)] + lowest(least, whole(desk.bits, desk.chance))


def tell_ifchance(desk, given):
    """How likely the answer would stay by another chance."""
    if not chance_right(given):
        return refused(NOT_RIGHT)
    return [0] + stays(desk.bits, desk.says, given)


MISHEARING = {
    "chance": tell_chance,
    "heard": tell_heard,
    "soft": tell_soft,
    "stays": tell_stays,
    "agree": tell_agree,
    "worst": tell_worst,
    "ifchance": tell_ifchance,
}
