"""Changes: what was there ahead of each of them, so that they're taken back."""

from swaybits.common import NOTHING_THERE, refused

MOST_BACK = 10


def as_it_is(desk):
    """All that a change may make another: the answer, the chance and the shelf."""
    return (desk.says, desk.chance, desk.shelf)


def keep_change(desk, before):
    """Keeps what was there ahead of a call, if that isn't as it was."""
    # A call is asked for what it left, not for what it was told: so neither a
    # refusal nor one that makes all as it was can stand here by mistake.
    if as_it_is(desk) != before:
        desk.past.append(before)
        desk.past = desk.past[-MOST_BACK:]


def tell_back(desk):
    """Takes the last change back; how many still can be."""
    if len(desk.past) == 0:
        return refused(NOTHING_THERE)
    says, chance, shelf = desk.past.pop()
    desk.says = says
    desk.chance = chance
    desk.shelf = shelf
    return [len(desk.past)]
