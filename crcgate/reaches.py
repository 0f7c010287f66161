"""The reach of a gate's divisor."""

from crcgate.errors import NoDivisor
from crcgate.rows import need_row, parted, reduced

FEWEST_SIGNS = 2
MOST_SIGNS = 13


def need_gate_divisor(divisor):
    """Refuse what is no row, then a row that is no gate's divisor."""
    need_row(divisor)
    if len(divisor) < FEWEST_SIGNS or len(divisor) > MOST_SIGNS:
        raise NoDivisor("a gate's divisor has 2 to 13 signs")
    if divisor[0] == 0 or divisor[-1] == 0:
        raise NoDivisor("a gate's divisor begins and ends with 1")


def reach(divisor):
    """Give the least n from 1 on such that yes at n and 0 alone leaves no yes."""
    need_gate_divisor(divisor)
    many = 1
    # The row for n is a yes, n - 1 noughts and a yes. All but its last sign
    # begins the row for n + 1 too, so only the rest of that is carried on.
    _, start = parted([1], divisor)
    while 1 in reduced(start + [1], divisor):
        start = reduced(start + [0], divisor)
        many += 1
    return many
