"""The desk of answers: calls on one object, told as whole numbers."""

from swaybits.calls import cut
from swaybits.common import NOT_BEGUN, refused
from swaybits.making import MAKING, begin
from swaybits.mishearing import MISHEARING
from swaybits.swaying import SWAYING


class Desk:
    """What one object has; without bits it hasn't begun."""

    def __init__(self):
        self.bits = 0
        self.says = ()
        self.chance = ()


def answered(desk, name, given):
    """What is answered to one call, number by number."""
    if name == "begin":
        return begin(desk, given)
    if desk.bits == 0:
        return refused(NOT_BEGUN)
    if name in MAKING:
        return MAKING[name](desk, given)
    if name in SWAYING:
        return SWAYING[name](desk, given)
    if name in MISHEARING:
        return MISHEARING[name](desk, given)
    raise NotImplementedError(f"{name} is not built yet")


def answers(calls):
    """For each call how many numbers are answered, then these."""
    desk = Desk()
    told = []
    for name, given in cut(calls):
        numbers = answered(desk, name, given)
        told.append(len(numbers))
        told.extend(numbers)
    return told
