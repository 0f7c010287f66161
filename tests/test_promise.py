"""Point 12: what comes of a sealed row with few signs turned does not hold."""

import itertools
import unittest

from crcgate.errors import Broken
from crcgate.gates import Gate
from tests.helping import divisors_to, long_divisors, refused, some_row, with_turned


def stretches(length, width):
    """Each choice of places that all lie within so many next to one another."""
    for first in range(length):
        near = range(first + 1, min(first + width, length))
        for many in range(len(near) + 1):
            for others in itertools.combinations(near, many):
                yield (first,) + others


class TestPromise(unittest.TestCase):
    def check(self, gate, whole, places):
        turned = with_turned(whole, places)
        self.assertIs(gate.holds(turned), False, (gate.divisor, whole, places))
        refused(self, Broken, gate.opened, turned)

    def sealed_rows(self, most_signs):
        """Each gate of a divisor of 2 to so many signs, with a sealed row of each length."""
        for divisor in divisors_to(most_signs):
            gate = Gate(divisor)
            for length in range(gate.width, gate.reach + 1):
                whole = gate.sealed(some_row(17 * length, length - gate.width))
                self.assertEqual(len(whole), length)
                self.assertIs(gate.holds(whole), True)
                yield gate, whole

    def test_every_one_sign(self):
        for gate, whole in self.sealed_rows(7):
            for place in range(len(whole)):
                self.check(gate, whole, (place,))

    def test_every_two_signs(self):
        for gate, whole in self.sealed_rows(6):
            for places in itertools.combinations(range(len(whole)), 2):
                self.check(gate, whole, places)

    def test_every_stretch(self):
        for gate, whole in self.sealed_rows(6):
            for places in stretches(len(whole), gate.width):
                self.check(gate, whole, places)

    def test_every_odd_number_of_signs_in_short_rows(self):
        for gate, whole in self.sealed_rows(6):
            if gate.even and len(whole) <= 9:
                for many in range(1, len(whole) + 1, 2):
                    for places in itertools.combinations(range(len(whole)), many):
                        self.check(gate, whole, places)

    def test_some_odd_numbers_of_signs_in_long_rows(self):
        for gate, whole in self.sealed_rows(6):
            if gate.even and len(whole) > 9:
                for seed in range(30):
                    places = [place for place, sign in enumerate(some_row(seed, len(whole))) if sign]
                    self.check(gate, whole, places if len(places) % 2 == 1 else places[1:])

    def test_some_changes_of_long_divisors(self):
        for divisor in long_divisors():
            gate = Gate(divisor)
            whole = gate.sealed(some_row(5, gate.reach - gate.width))
            last = gate.reach - 1
            for places in ((0,), (last,), (0, last), (0, last // 2), (last // 2, last)):
                self.check(gate, whole, set(places))
            for first in sorted({0, last // 2, gate.reach - gate.width}):
                near = range(first, min(first + gate.width, gate.reach))
                self.check(gate, whole, near)
                self.check(gate, whole, [near[0], near[-1]])
            if gate.even:
                for many in (3, 5, 9):
                    self.check(gate, whole, range(0, many))
                    if gate.reach > many * 7:
                        self.check(gate, whole, range(0, many * 7, 7))


if __name__ == "__main__":
    unittest.main()
