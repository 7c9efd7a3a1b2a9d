"""How the calls on one object are told as numbers."""

# A call's number is its place here; behind its name stand how many whole
# numbers it has, and how many rows.
CALLS = (
    ("begin", 1, 0),
    ("told", 0, 1),
    ("least", 1, 1),
    ("odd", 1, 0),
    ("bit", 1, 0),
    ("not", 0, 0),
    ("turn", 1, 0),
    ("set", 2, 0),
    ("ask", 1, 0),
    ("mean", 0, 0),
    ("sway", 1, 0),
    ("all", 0, 0),
    ("even", 0, 0),
    ("part", 1, 0),
    ("parts", 0, 0),
    ("levels", 0, 0),
    ("sides", 0, 0),
    ("fewest", 0, 0),
    ("rising", 0, 0),
    ("idle", 0, 0),
    ("most", 0, 0),
    ("state", 0, 0),
    ("chance", 2, 0),
    ("heard", 2, 0),
    ("soft", 1, 0),
    ("stays", 0, 0),
    ("agree", 0, 0),
    ("worst", 0, 0),
    ("ifchance", 2, 0),
    ("vote", 0, 1),
    ("winner", 0, 1),
    ("order", 0, 1),
    ("rounds", 0, 0),
    ("noround", 0, 0),
    ("byparts", 0, 0),
    ("isodd", 0, 0),
    ("alike", 0, 0),
    ("whose", 0, 0),
    ("first", 0, 0),
    ("wins", 1, 0),
    ("yes", 2, 0),
    ("swayat", 3, 0),
    ("slope", 2, 0),
    ("sizes", 0, 0),
    ("half", 1, 0),
    ("width", 4, 0),
    ("tries", 3, 0),
    ("steepest", 1, 0),
    ("fixed", 1, 0),
    ("put", 1, 0),
    ("take", 1, 0),
    ("join", 2, 0),
    ("same", 1, 0),
    ("more", 2, 0),
    ("best", 1, 0),
    ("shelf", 0, 0),
    ("back", 0, 0),
)


def cut(calls):
    """The calls one by one: each its name, and a list of what is given to it.

    A row stands in that list as a list of its own, behind the whole numbers.
    """
    found = []
    at = 0
    while at < len(calls):
        name, plain, rows = CALLS[calls[at]]
        at = at + 1
        given = calls[at:at + plain]
        at = at + plain
        for row in range(rows):
            size = calls[at]
            at = at + 1
            given.append(calls[at:at + size])
            at = at + size
        found.append((name, given))
    return found
