"""Gates: rows sealed with their checks, and rows looked at for what was turned."""

from crcgate.errors import Broken, NoCount, NoRow, TooLong, TooShort
from crcgate.reaches import reach
from crcgate.rows import need_row, parted, reduced

MOST_NOUGHTS = 10 ** 18


def is_count(value):
    """Tell whether the value is a whole number of noughts that may be put behind."""
    # To Python, True and False are whole numbers too; here they are no counts.
    if not isinstance(value, int) or isinstance(value, bool):
        return False
    return 0 <= value <= MOST_NOUGHTS


def turned(row, place):
    """Give a new row with the sign at this place, told from the front, turned."""
    return row[:place] + [1 - row[place]] + row[place + 1:]


class Gate:
    """What seals rows by one divisor, and tells which rows hold."""

    def __init__(self, divisor):
        # The reach is asked for first, as it refuses what is no gate's divisor.
        self.reach = reach(divisor)
        self.divisor = list(divisor)
        self.width = len(divisor) - 1
        self.even = divisor.count(1) % 2 == 0

    def rest(self, row):
        """Give the rest of a row of any length."""
        _, rest = parted(row, self.divisor)
        return rest

    def later(self, rest, many):
        """Give what becomes of a rest when so many noughts follow its row."""
        need_row(rest)
        if len(rest) != self.width:
            raise NoRow("a rest has as many signs as the width tells")
        if not is_count(many):
            raise NoCount("the noughts are a whole number from 0 to 10 ** 18")
        # As many noughts as the reach tells leave each rest as it was. So it is
        # enough to put those that are left when the reach is taken out.
        return self.rest(rest + [0] * (many % self.reach))

    def check(self, row):
        """Give the signs that, put behind the row, leave no yes."""
        need_row(row)
        # The rest that these noughts leave, put in their place, is added to
        # itself there, and so leaves no yes.
        return self.rest(row + [0] * self.width)

    def sealed(self, row):
        """Give the row with its check behind it."""
        need_row(row)
        if len(row) + self.width > self.reach:
            raise TooLong("the row and its check have more signs than the reach tells")
        return row + self.check(row)

    def holds(self, row):
        """Tell whether the row leaves no yes."""
        need_row(row)
        if len(row) < self.width:
            raise TooShort("the row has fewer signs than the width tells")
        if len(row) > self.reach:
            raise TooLong("the row has more signs than the reach tells")
        return 1 not in self.rest(row)

    def opened(self, row):
        """Give the row without its check, if it holds."""
        if not self.holds(row):
            raise Broken("the row does not hold")
        return row[:len(row) - self.width]

    def mended(self, row):
        """Give the row that holds, with no sign turned or just one."""
        if self.holds(row):
            return list(row)
        wanted = self.rest(row)
        # The sign to be turned is the one that, standing alone, leaves the same
        # rest. No two places within the reach leave the same.
        alone = self.rest([1])
        for place in range(len(row) - 1, -1, -1):
            if alone == wanted:
                return turned(row, place)
            alone = reduced(alone + [0], self.divisor)
        raise Broken("no one sign mends the row")
