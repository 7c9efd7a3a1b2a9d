"""Sways: how much an answer hangs on its bits."""

from swaybits.common import NO_SUCH, NOT_RIGHT, bits_set, lowest, meets_oddly, refused, turned


def tell_ask(desk, given):
    """1 if it says yes to the word, else 0."""
    word = given[0]
    if word >= len(desk.says):
        return refused(NOT_RIGHT)
    return [desk.says[word]]


def tell_mean(desk, given):
    """To which part of all words it says yes."""
    return [0] + lowest(sum(desk.says), len(desk.says))


def swayed(says, bit):
    """The words at which the bit sways."""
    return [word for word, said in enumerate(says) if said != says[turned(word, bit)]]


def sways(says, bit):
    """At how many words the bit sways."""
    return len(swayed(says, bit))


def all_sways(bits, says):
    """At how many words each bit sways, from bit 0 on."""
    return [sways(says, bit) for bit in range(bits)]


def tell_sway(desk, given):
    """One bit's sway."""
    bit = given[0]
    if bit >= desk.bits:
        return refused(NO_SUCH)
    return [0] + lowest(sways(desk.says, bit), len(desk.says))


def together(bits, says):
    """All bits' sways together."""
    return lowest(sum(all_sways(bits, says)), len(says))


def tell_all(desk, given):
    """All bits' sways together."""
    return [0] + together(desk.bits, desk.says)


def even(says):
    """How even an answer is."""
    size = len(says)
    count = sum(says)
    return lowest(4 * count * (size - count), size * size)


def tell_even(desk, given):
    """How even the answer is."""
    return [0] + even(desk.says)


def part(says, chosen):
    """The part of a set, as many times as there are words."""
    return sum([1 if said == meets_oddly(word, chosen) else -1 for word, said in enumerate(says)])


def all_parts(says):
    """The parts of all sets, each as many times as there are words."""
    return [part(says, chosen) for chosen in range(len(says))]


def tell_part(desk, given):
    """The part of a set."""
    chosen = given[0]
    if chosen >= len(desk.says):
        return refused(NOT_RIGHT)
    return [0] + lowest(part(desk.says, chosen), len(desk.says))


def tell_parts(desk, given):
    """How many sets have a part that isn't 0; each of them, and its part."""
    found = []
    count = 0
    for chosen, share in enumerate(all_parts(desk.says)):
        if share != 0:
            count = count + 1
            found.append(chosen)
            found.extend(lowest(share, len(desk.says)))
    return [count] + found


def tell_levels(desk, given):
    """How many levels there are, and each of them."""
    totals = [0 for level in range(desk.bits + 1)]
    for chosen, share in enumerate(all_parts(desk.says)):
        level = bits_set(chosen)
        totals[level] = totals[level] + share * share
    found = [len(totals)]
    for total in totals:
        found.extend(lowest(total, len(desk.says) * len(desk.says)))
    return found


def sides(bits, says):
    """How many sides an answer has."""
    # A bit sways at both words of a side, so each side is met twice.
    return sum(all_sways(bits, says)) // 2


def tell_sides(desk, given):
    """How many sides there are."""
    return [sides(desk.bits, desk.says)]


def tell_fewest(desk, given):
    """How many sides there are if yes is said to the first words instead."""
    count = sum(desk.says)
    return [sides(desk.bits, [1 if word < count else 0 for word in range(len(desk.says))])]


def falls(says, bit):
    """Whether with this bit set as well a yes is somewhere a no."""
    return any([said > says[word | (1 << bit)] for word, said in enumerate(says)])


def tell_rising(desk, given):
    """1 if the answer is rising, else 0."""
    return [0 if any([falls(desk.says, bit) for bit in range(desk.bits)]) else 1]


def tell_idle(desk, given):
    """How many bits never sway, and these."""
    idle = [bit for bit, count in enumerate(all_sways(desk.bits, desk.says)) if count == 0]
    return [len(idle)] + idle


def tell_most(desk, given):
    """The first bit of those that sway most, and its sway."""
    counts = all_sways(desk.bits, desk.says)
    most = max(counts)
    return [counts.index(most)] + lowest(most, len(desk.says))


SWAYING = {
    "ask": tell_ask,
    "mean": tell_mean,
    "sway": tell_sway,
    "all": tell_all,
    "even": tell_even,
    "part": tell_part,
    "parts": tell_parts,
    "levels": tell_levels,
    "sides": tell_sides,
    "fewest": tell_fewest,
    "rising": tell_rising,
    "idle": tell_idle,
    "most": tell_most,
}
