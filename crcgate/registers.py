"""Registers: rests and checks of rows that come sign by sign."""

from crcgate.errors import NoMate, NoSign, TooLong
from crcgate.gates import MOST_NOUGHTS, Gate
from crcgate.rows import added, is_sign, reduced


class Register:
    """What takes signs one by one, and keeps their rest and their number."""

    def __init__(self, gate):
        # What is handed in is not kept: this is another gate by the same divisor.
        self.gate = Gate(gate.divisor)
        self.many = 0
        self._rest = [0] * self.gate.width

    def put(self, sign):
        """Take one more sign, behind all others."""
        if not is_sign(sign):
            raise NoSign("a sign is the whole number 0 or 1")
        self._rest = reduced(self._rest + [sign], self.gate.divisor)
        self.many += 1

    def anew(self):
        """Go back to no signs."""
        self.many = 0
        self._rest = [0] * self.gate.width

    def joined(self, other):
        """Take all signs that the other one has taken, behind the own ones."""
        if not isinstance(other, Register):
            raise NoMate("only a Register can be joined")
        if other.gate.divisor != self.gate.divisor:
            raise NoMate("the other one's gate has another divisor")
        # As long as there are no more, another one can take all of them in turn:
        # its gate can put so many noughts.
        if self.many + other.many > MOST_NOUGHTS:
            raise TooLong("both have more than 10 ** 18 signs together")
        # The own signs move ahead by as many places as the other one has signs.
        moved = self.gate.later(self._rest, other.many)
        self._rest = added(moved, other.rest())
        self.many += other.many

    def rest(self):
        """Give the rest of the row of all signs taken."""
        return list(self._rest)

    def check(self):
        """Give the check of the row of all signs taken."""
        return self.gate.later(self._rest, self.gate.width)
