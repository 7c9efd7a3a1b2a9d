"""What all calls share: refusals, words as numbers, and fractions."""

# Refusals are answered below 0; here they stand by their bare numbers.
NO_SUCH = 2
NOTHING_THERE = 6
NOT_BEGUN = 11
NOT_RIGHT = 22
NONE_FOUND = 33
TOO_MANY = 75

PLACES = 4


def refused(number):
    """What is answered to a call that is refused."""
    return [-number]


def bits_set(word):
    """How many bits are set in a word or a set."""
    count = 0
    while word > 0:
        count = count + (word & 1)
        word = word >> 1
    return count


def turned(word, bit):
    """The word with this bit turned."""
    return word ^ (1 << bit)


def meets_oddly(word, chosen):
    """1 if the word meets the set in an odd number of bits, else 0."""
    return bits_set(word & chosen) % 2


def power(base, times):
    """The base multiplied with itself so many times; 1 for no times."""
    product = 1
    for step in range(times):
        product = product * base
    return product


def lowest(upper, lower):
    """A fraction's two numbers with nothing in common; lower is above 0."""
    divisor = lower
    rest = abs(upper)
    while rest > 0:
        divisor, rest = rest, divisor % rest
    return [upper // divisor, lower // divisor]
