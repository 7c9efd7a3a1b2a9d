"""Answers as they are made: what each word is told, 1 for yes, 0 for no."""

from swaybits.common import NO_SUCH, NOT_RIGHT, PLACES, meets_oddly, refused, turned

MOST_BITS = 5
MOST_TOLD = 32
MOST_WEIGHT = 9


def begin(desk, given):
    """So many bits, and all as it is at first."""
    bits = given[0]
    if bits < 1 or bits > MOST_BITS:
        return refused(NOT_RIGHT)
    desk.bits = bits
    desk.says = tuple([0 for word in range(1 << bits)])
    desk.chance = (1, 10)
    desk.shelf = tuple([None for place in range(PLACES)])
    desk.past = []
    return [0]


def made(desk, says):
    """Keeps another answer; to how many words it says yes."""
    desk.says = tuple(says)
    return [sum(says)]


def make_told(desk, given):
    """Yes to the words that are told, alone."""
    words = given[0]
    size = len(desk.says)
    if len(words) > MOST_TOLD or any([word >= size for word in words]):
        return refused(NOT_RIGHT)
    return made(desk, [1 if word in words else 0 for word in range(size)])


def weight(word, weights):
    """The numbers of the bits that are set, together."""
    return sum([number for bit, number in enumerate(weights) if (word >> bit) & 1])


def make_least(desk, given):
    """Yes to words whose set bits' numbers are so much, at least."""
    least, weights = given
    if len(weights) != desk.bits or any([number > MOST_WEIGHT for number in weights]):
        return refused(NOT_RIGHT)
    return made(desk, [1 if weight(word, weights) >= least else 0 for word in range(len(desk.says))])


def make_odd(desk, given):
    """Yes to words that meet the set in an odd number of bits."""
    chosen = given[0]
    if chosen >= len(desk.says):
        return refused(NOT_RIGHT)
    return made(desk, [meets_oddly(word, chosen) for word in range(len(desk.says))])


def make_bit(desk, given):
    """Yes to words in which the bit is set."""
    bit = given[0]
    if bit >= desk.bits:
        return refused(NO_SUCH)
    return made(desk, [(word >> bit) & 1 for word in range(len(desk.says))])


def make_not(desk, given):
    """Yes where it was no, no where it was yes."""
    return made(desk, [1 - said for said in desk.says])


def make_turn(desk, given):
    """To each word what was said to it with the bit turned."""
    bit = given[0]
    if bit >= desk.bits:
        return refused(NO_SUCH)
    return made(desk, [desk.says[turned(word, bit)] for word in range(len(desk.says))])


def make_set(desk, given):
    """To one word what is told, to the others as it was."""
    word, said = given
    if word >= len(desk.says) or said > 1:
        return refused(NOT_RIGHT)
    says = list(desk.says)
    says[word] = said
    return made(desk, says)


def tell_state(desk, given):
    """How many bits; then all words to which it says yes."""
    return [desk.bits] + [word for word, said in enumerate(desk.says) if said == 1]


MAKING = {
    "told": make_told,
    "least": make_least,
    "odd": make_odd,
    "bit": make_bit,
    "not": make_not,
    "turn": make_turn,
    "set": make_set,
    "state": tell_state,
}
