"""The desk of answers: calls on one object, told as whole numbers."""

from swaybits.calls import cut
from swaybits.changing import as_it_is, keep_change, tell_back
from swaybits.common import NOT_BEGUN, refused
from swaybits.comparing import COMPARING, compared
from swaybits.making import MAKING, begin
from swaybits.mishearing import MISHEARING
from swaybits.rises import RISES
from swaybits.shelving import SHELVING
from swaybits.swaying import SWAYING


class Desk:
    """What one object has; without bits it hasn't begun."""

    def __init__(self):
        self.bits = 0
        self.says = ()
        self.chance = ()
        self.shelf = ()
        self.past = []


def called(desk, name, given):
    """What is answered to a call that neither begins nor takes back."""
    if name in MAKING:
        return MAKING[name](desk, given)
    if name in SWAYING:
        return SWAYING[name](desk, given)
    if name in MISHEARING:
        return MISHEARING[name](desk, given)
    if name in COMPARING:
        return compared(desk, name, given)
    if name in RISES:
        return RISES[name](desk, given)
    return SHELVING[name](desk, given)


def answered(desk, name, given):
    """What is answered to one call, number by number."""
    if name == "begin":
        return begin(desk, given)
    if desk.bits == 0:
        return refused(NOT_BEGUN)
    if name == "back":
        return tell_back(desk)
    before = as_it_is(desk)
    numbers = called(desk, name, given)
    keep_change(desk, before)
    return numbers


def answers(calls):
    """For each call how many numbers are answered, then these."""
    desk = Desk()
    told = []
    for name, given in cut(calls):
        numbers = answered(desk, name, given)
        told.append(len(numbers))
        told.extend(numbers)
    return told
