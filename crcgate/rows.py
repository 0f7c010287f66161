"""Rows of signs: their sums, their products, and their parting by a divisor."""

from crcgate.errors import NoDivisor, NoRow


def is_sign(value):
    """Tell whether the value is the whole number 0 or 1."""
    # To Python, True and False are whole numbers too; here they are no signs.
    return isinstance(value, int) and not isinstance(value, bool) and value in (0, 1)


def need_row(row):
    """Refuse what is no row."""
    if not isinstance(row, list):
        raise NoRow("a row is a list")
    for sign in row:
        if not is_sign(sign):
            raise NoRow("a row has no members but the whole numbers 0 and 1")


def need_divisor(divisor):
    """Refuse what is no row, then a row whose first sign is not 1."""
    need_row(divisor)
    if len(divisor) == 0 or divisor[0] == 0:
        raise NoDivisor("the first sign of a divisor is 1")


def lengthened(row, length):
    """Give a new row: noughts and behind them the row, at least that long."""
    return [0] * (length - len(row)) + row


def added(one, other):
    """Give the sum of two rows, as long as the longer one."""
    need_row(one)
    need_row(other)
    length = max(len(one), len(other))
    first = lengthened(one, length)
    second = lengthened(other, length)
    return [a ^ b for a, b in zip(first, second)]


def times(one, other):
    """Give the product of two rows."""
    need_row(one)
    need_row(other)
    # Without this, an empty row and a longer one could give signs.
    if len(one) == 0 or len(other) == 0:
        return []
    found = [0] * (len(one) + len(other) - 1)
    # Powers that add up to p stand at places, told from the front, that add up
    # to the place of p in the product.
    for i, a in enumerate(one):
        for j, b in enumerate(other):
            found[i + j] = found[i + j] ^ (a & b)
    return found


def reduced(row, divisor):
    """Give the rest of a row that is just as long as the divisor."""
    if row[0] == 0:
        return row[1:]
    return [a ^ b for a, b in zip(row[1:], divisor[1:])]


def parted(row, divisor):
    """Give the quotient and the rest of the row, parted by the divisor."""
    need_row(row)
    need_divisor(divisor)
    width = len(divisor) - 1
    rest = [0] * width
    heads = []
    for sign in row:
        longer = rest + [sign]
        heads.append(longer[0])
        rest = reduced(longer, divisor)
    # The first heads are noughts of the first rest, not yet signs of the row.
    return (heads[width:], rest)
