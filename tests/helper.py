"""Calls by their names, and what the document's words say, reckoned its own way."""

from fractions import Fraction
from functools import lru_cache
from itertools import product

from swaybits.desk import answers

NAMES = """begin told least odd bit not turn set ask mean sway all even part parts levels sides
fewest rising idle most state chance heard soft stays agree worst ifchance vote winner order
rounds noround byparts isodd alike whose first wins yes swayat slope sizes half width tries
steepest fixed put take join same more best shelf back""".split()

# Besides begin, each call of the document with arguments that a desk of one bit would take.
EVERY_CALL = [
    ("told", [1]), ("least", 1, [1]), ("odd", 1), ("bit", 0), ("not",), ("turn", 0), ("set", 1, 1),
    ("ask", 1), ("mean",), ("sway", 0), ("all",), ("even",), ("part", 1), ("parts",), ("levels",),
    ("sides",), ("fewest",), ("rising",), ("idle",), ("most",), ("state",), ("chance", 1, 3),
    ("heard", 0, 1), ("soft", 1), ("stays",), ("agree",), ("worst",), ("ifchance", 1, 3),
    ("vote", [0]), ("winner", [0]), ("order", [0]), ("rounds",), ("noround",), ("byparts",),
    ("isodd",), ("alike",), ("whose",), ("first",), ("wins", 0), ("yes", 1, 2), ("swayat", 0, 1, 2),
    ("slope", 1, 2), ("sizes",), ("half", 2), ("width", 2, 1, 1, 2), ("tries", 1, 2, 1),
    ("steepest", 2), ("fixed", 2), ("put", 0), ("take", 0), ("join", 0, 0), ("same", 0),
    ("more", 0, 0), ("best", 0), ("shelf",), ("back",),
]

HUGE = 4294967295

ORDERS = ["abc", "acb", "bac", "bca", "cab", "cba"]


def line(*calls):
    """The calls as one list of whole numbers."""
    told = []
    for name, *given in calls:
        told.append(NAMES.index(name))
        for one in given:
            if isinstance(one, list):
                told.append(len(one))
                told.extend(one)
            else:
                told.append(one)
    return told


def split(numbers, count):
    """What is answered to each call, a list each."""
    found = []
    at = 0
    while at < len(numbers):
        size = numbers[at]
        found.append(numbers[at + 1:at + 1 + size])
        at += 1 + size
    assert at == len(numbers) and len(found) == count, numbers
    return found


def said(*calls):
    """What is answered to each call; also sees to it that all is as the interface tells."""
    handed = line(*calls)
    before = list(handed)
    numbers = answers(handed)
    assert handed == before, "what was handed in was changed"
    assert isinstance(numbers, list) and all(type(number) is int for number in numbers), numbers
    return split(numbers, len(calls))


def last(*calls):
    """What is answered to the last call."""
    return said(*calls)[-1]


def fraction(value):
    """A fraction's two numbers."""
    value = Fraction(value)
    return [value.numerator, value.denominator]


def bits_of(word):
    """The bits that are set."""
    return {bit for bit in range(5) if word // 2 ** bit % 2 == 1}


@lru_cache(maxsize=None)
def words_of(vote):
    """For a with b, b with c, c with a: the word of the voters who put the first ahead."""
    found = []
    for former, latter in ("ab", "bc", "ca"):
        ahead = [ORDERS[order].index(former) < ORDERS[order].index(latter) for order in vote]
        found.append(sum(2 ** voter for voter, here in enumerate(ahead) if here))
    return found


class Oracle:
    """An answer by its yes words, and what the document's words say of it."""

    def __init__(self, bits, yes, chance=Fraction(1, 10)):
        self.bits = bits
        self.words = range(2 ** bits)
        self.yes = set(yes)
        self.chance = chance

    def turned(self, word, bit):
        return sum(2 ** one for one in bits_of(word) ^ {bit})

    def sway(self, bit):
        differing = [word for word in self.words if (word in self.yes) != (self.turned(word, bit) in self.yes)]
        return Fraction(len(differing), len(self.words))

    def sways(self):
        return [self.sway(bit) for bit in range(self.bits)]

    def mean(self):
        return Fraction(len(self.yes), len(self.words))

    def even(self):
        return 4 * self.mean() * (1 - self.mean())

    def part(self, chosen):
        total = 0
        for word in self.words:
            odd = len(bits_of(word) & bits_of(chosen)) in (1, 3, 5)
            total += 1 if odd == (word in self.yes) else -1
        return Fraction(total, len(self.words))

    def level(self, size):
        return sum((self.part(chosen) ** 2 for chosen in self.words if len(bits_of(chosen)) == size), Fraction(0))

    def sides(self):
        count = 0
        for low in self.words:
            for high in self.words:
                if low < high and len(bits_of(low) ^ bits_of(high)) == 1:
                    count += (low in self.yes) != (high in self.yes)
        return count

    def rising(self):
        for low in self.yes:
            for high in self.words:
                if bits_of(low) < bits_of(high) and len(bits_of(high) - bits_of(low)) == 1 and high not in self.yes:
                    return 0
        return 1

    def heard(self, meant, other):
        likely = Fraction(1)
        for bit in range(self.bits):
            likely *= 1 - self.chance if (bit in bits_of(meant)) == (bit in bits_of(other)) else self.chance
        return likely

    def soft(self, meant):
        return sum((self.heard(meant, word) for word in self.yes), Fraction(0))

    def rightly(self, meant):
        return self.soft(meant) if meant in self.yes else 1 - self.soft(meant)

    def stays(self):
        return sum(self.rightly(word) for word in self.words) / len(self.words)

    def agree(self):
        return sum(self.soft(word) ** 2 + (1 - self.soft(word)) ** 2 for word in self.words) / len(self.words)

    def votes(self):
        return list(product(range(6), repeat=self.bits))

    def vote(self, vote):
        return [word in self.yes for word in words_of(tuple(vote))]

    def comes_round(self, vote):
        return len(set(self.vote(vote))) == 1

    def ahead_of(self, vote):
        """For each thing, of how many others it's ahead."""
        counts = dict.fromkeys("abc", 0)
        for (former, latter), yes in zip(("ab", "bc", "ca"), self.vote(vote)):
            counts[former if yes else latter] += 1
        return counts

    def winner(self, vote):
        return [thing for thing, count in self.ahead_of(vote).items() if count == 2]

    def order(self, vote):
        counts = self.ahead_of(vote)
        return ORDERS.index("".join(sorted("abc", key=lambda thing: -counts[thing])))

    def rounds(self):
        return [vote for vote in self.votes() if self.comes_round(vote)]

    def byparts(self):
        total = sum((self.part(chosen) ** 2 * Fraction(-1, 3) ** len(bits_of(chosen)) for chosen in self.words),
                    Fraction(0))
        return Fraction(3, 4) - Fraction(3, 4) * total

    def isodd(self):
        return int(all((word in self.yes) != (self.words[-1] - word in self.yes) for word in self.words))

    def alike(self):
        said = {(len(bits_of(word)), word in self.yes) for word in self.words}
        return int(len(said) == self.bits + 1)

    def whose(self):
        for bit in range(self.bits):
            own = {word for word in self.words if bit in bits_of(word)}
            if self.yes == own:
                return [bit, 1]
            if self.yes == set(self.words) - own:
                return [bit, 0]
        return [-33]

    def likely(self, word, p, without=None):
        likely = Fraction(1)
        for bit in range(self.bits):
            if bit != without:
                likely *= p if bit in bits_of(word) else 1 - p
        return likely

    def yes_at(self, p):
        return sum((self.likely(word, p) for word in self.yes), Fraction(0))

    def sway_at(self, bit, p):
        return sum((self.likely(word, p) for word in self.words
                    if (word in self.yes) != (self.turned(word, bit) in self.yes)), Fraction(0))

    def slope(self, p):
        """By each bit alone, the others held; so it's reckoned otherwise than by sizes."""
        total = Fraction(0)
        for bit in range(self.bits):
            for word in self.words:
                if bit in bits_of(word):
                    rise = (word in self.yes) - (self.turned(word, bit) in self.yes)
                    total += rise * self.likely(word, p, without=bit)
        return total

    def sizes(self):
        return [sum(len(bits_of(word)) == size for word in self.yes) for size in range(self.bits + 1)]

    def least_for(self, d, due):
        return next((a for a in range(d + 1) if self.yes_at(Fraction(a, d)) >= due), None)

    def measure(self, number):
        return [self.even, lambda: sum(self.sways()), self.stays, self.byparts][number]()


def some_answers():
    """Every answer of 1 to 3 bits, and some of 4 and 5: how many bits, and the yes words."""
    found = []
    for bits in (1, 2, 3):
        for number in range(2 ** 2 ** bits):
            found.append((bits, [word for word in range(2 ** bits) if number // 2 ** word % 2]))
    for bits in (4, 5):
        words = range(2 ** bits)
        found.append((bits, []))
        found.append((bits, list(words)))
        found.append((bits, [2 ** bits - 1]))
        found.append((bits, [word for word in words if len(bits_of(word)) >= 3]))
        found.append((bits, [word for word in words if len(bits_of(word)) % 2]))
        for step in (3, 5, 11, 13):
            found.append((bits, [word for word in words if word * word * step % 17 < 8]))
    return found
