"""Points 1, 14 and 15: registers."""

import inspect
import time
import unittest

from crcgate import registers
from crcgate.errors import NoMate, NoSign, TooLong
from crcgate.gates import Gate
from crcgate.registers import Register
from tests.helping import (
    check_signs, divisors_to, long_divisors, number_of, product_of, refused, rest_by_words, rest_of,
    rest_of_yes_at, row_of, some_row,
)

METHODS = ("put", "anew", "joined", "rest", "check")
PLAIN = [1, 0, 1, 1]
MOST = 10 ** 18


def no_signs():
    """Values that are no signs."""
    return [True, False, 2, -1, 10 ** 20, None, "", "1", "0", b"\x01", [], [1], (), (0,), {}, {1: 1}, {0}, object()]


def filled(divisor, row):
    """A register that has taken the signs of the row."""
    taker = Register(Gate(divisor))
    for sign in row:
        taker.put(sign)
    return taker


def grown(divisor, many):
    """A register that has taken so many signs, perhaps very many, each one yes."""
    taker = Register(Gate(divisor))
    for bit in bin(many)[2:]:
        taker.joined(taker)
        if bit == "1":
            taker.put(1)
    return taker


def told(taker):
    """All that a register tells."""
    return taker.many, taker.rest(), taker.check(), taker.gate.divisor


def kept(taker):
    """All that a register keeps, but for its gate."""
    return {name: value for name, value in vars(taker).items() if name != "gate"}


class RegisterCase(unittest.TestCase):
    def demand(self, taker, divisor, row):
        """Demand that it tells what is to be told of the row."""
        self.assertIs(type(taker.many), int)
        self.assertEqual(taker.many, len(row))
        self.assertEqual(taker.rest(), rest_by_words(row, divisor))
        self.assertEqual(taker.check(), rest_by_words(row + [0] * (len(divisor) - 1), divisor))
        check_signs(self, taker.rest())
        check_signs(self, taker.check())

    def stays(self, taker, kind, function, *handed):
        """Demand a refusal that changes nothing."""
        before = told(taker)
        refused(self, kind, function, *handed)
        self.assertEqual(told(taker), before)


class TestInterface(unittest.TestCase):
    def test_it_is_defined_in_this_file(self):
        self.assertEqual(Register.__module__, "crcgate.registers")
        self.assertIs(registers.Register, Register)

    def test_each_method_is_defined_in_the_class(self):
        for name in METHODS:
            self.assertTrue(inspect.isfunction(vars(Register)[name]), name)

    def test_the_fields_are_set_on_each_object(self):
        for name in ("gate", "many"):
            self.assertIn(name, vars(Register(Gate(PLAIN))))


class TestTaking(RegisterCase):
    """Point 14."""

    def test_at_first_there_are_none(self):
        for divisor in divisors_to(8):
            taker = Register(Gate(divisor))
            self.demand(taker, divisor, [])
            self.assertIsInstance(taker.gate, Gate)
            self.assertEqual(taker.gate.divisor, divisor)
            self.assertEqual(taker.gate.reach, Gate(divisor).reach)

    def test_written_out(self):
        taker = Register(Gate(PLAIN))
        for sign in (1, 1, 0, 1):
            taker.put(sign)
        self.assertEqual((taker.many, taker.rest(), taker.check()), (4, [1, 1, 0], [0, 0, 1]))

    def test_one_sign_after_the_other(self):
        for divisor in divisors_to(7):
            gate = Gate(divisor)
            taker = Register(gate)
            row = []
            for sign in some_row(len(divisor), 40):
                self.assertIsNone(taker.put(sign))
                row.append(sign)
                self.demand(taker, divisor, row)
                self.assertEqual(taker.rest(), gate.rest(row))
                self.assertEqual(taker.check(), gate.check(row))

    def test_many_signs_by_long_divisors(self):
        for divisor in long_divisors():
            taker = Register(Gate(divisor))
            row = []
            for sign in some_row(len(divisor) + 1, 4200):
                taker.put(sign)
                row.append(sign)
                if len(row) % 700 in (0, 1) or len(row) < 20:
                    self.demand(taker, divisor, row)

    def test_noughts_are_counted(self):
        taker = filled(PLAIN, [0] * 50)
        self.demand(taker, PLAIN, [0] * 50)

    def test_anew(self):
        for divisor in divisors_to(5):
            taker = filled(divisor, some_row(3, 30))
            self.assertIsNone(taker.anew())
            self.demand(taker, divisor, [])
            row = some_row(4, 30)
            for sign in row:
                taker.put(sign)
            self.demand(taker, divisor, row)
            taker.anew()
            taker.anew()
            self.demand(taker, divisor, [])

    def test_what_is_no_sign_changes_nothing(self):
        for row in ([], [1], [1, 1, 0, 1, 0, 1]):
            taker = filled(PLAIN, row)
            for wrong in no_signs():
                with self.subTest(row=row, wrong=wrong):
                    self.stays(taker, NoSign, taker.put, wrong)
            taker.put(1)
            self.demand(taker, PLAIN, row + [1])

    def test_no_more_is_kept_than_the_rest_and_the_number(self):
        # Both rows have 300 signs and the same rest; 7 places are the reach.
        one = filled(PLAIN, [1] + [0] * 299)
        other = filled(PLAIN, [0] * 7 + [1] + [0] * 292)
        self.assertEqual(told(one), told(other))
        self.assertEqual(kept(one), kept(other))

    def test_rows_that_were_given_stay(self):
        taker = filled(PLAIN, [1, 0, 1])
        rest, check = taker.rest(), taker.check()
        self.assertEqual((rest, check), ([1, 0, 1], [1, 0, 0]))
        taker.put(1)
        taker.joined(filled(PLAIN, [1, 1, 1, 1]))
        taker.joined(taker)
        taker.anew()
        taker.put(1)
        self.assertEqual((rest, check), ([1, 0, 1], [1, 0, 0]))

    def test_rows_that_were_given_are_the_askers_own(self):
        for row in ([], [1], [1, 0, 1], some_row(8, 20)):
            taker = filled(PLAIN, row)
            before = told(taker)
            for ask in (taker.rest, taker.check):
                self.assertIsNot(ask(), ask())
                given = ask()
                given[0] = 1 - given[0]
                given.append(1)
                self.assertEqual(told(taker), before)
            taker.anew()
            given = taker.rest()
            given[0] = 1
            self.demand(taker, PLAIN, [])
            taker.put(1)
            given = taker.rest()
            given[0] = 1
            self.demand(taker, PLAIN, [1])

    def test_the_gate_handed_in_is_neither_changed_nor_kept(self):
        gate = Gate(PLAIN)
        taker = Register(gate)
        for sign in (1, 1, 0, 1):
            taker.put(sign)
        taker.joined(taker)
        self.assertEqual((gate.divisor, gate.width, gate.reach, gate.even), (PLAIN, 3, 7, False))
        gate.__init__([1, 0, 0, 1, 1])
        self.demand(taker, PLAIN, [1, 1, 0, 1] * 2)
        taker.put(1)
        self.demand(taker, PLAIN, [1, 1, 0, 1] * 2 + [1])
        self.assertEqual(taker.gate.divisor, PLAIN)

    def test_two_of_one_gate_do_not_share_their_signs(self):
        gate = Gate(PLAIN)
        one, other = Register(gate), Register(gate)
        one.put(1)
        one.put(0)
        other.put(1)
        self.demand(one, PLAIN, [1, 0])
        self.demand(other, PLAIN, [1])
        one.anew()
        self.demand(other, PLAIN, [1])


class TestJoined(RegisterCase):
    """Point 15."""

    def check(self, one, other, divisor, first, second):
        before = told(other)
        self.assertIsNone(one.joined(other))
        self.demand(one, divisor, first + second)
        self.assertEqual(told(other), before)

    def test_written_out(self):
        one, other = filled(PLAIN, [1, 1]), filled(PLAIN, [0, 1])
        one.joined(other)
        self.assertEqual((one.many, one.rest(), one.check()), (4, [1, 1, 0], [0, 0, 1]))
        self.assertEqual((other.many, other.rest(), other.check()), (2, [0, 0, 1], [0, 1, 1]))

    def test_two_gates_by_the_same_divisor(self):
        for divisor in divisors_to(6) + long_divisors():
            for m, n in ((0, 0), (0, 5), (5, 0), (1, 1), (3, 40), (40, 3), (200, 300)):
                first, second = some_row(m + 1, m), some_row(n + 2, n)
                self.check(filled(divisor, first), filled(divisor, second), divisor, first, second)

    def test_two_registers_of_one_gate(self):
        gate = Gate([1, 0, 0, 1, 1])
        one, other = Register(gate), Register(gate)
        for sign in (1, 0, 1, 1):
            one.put(sign)
        for sign in (0, 1, 1, 0, 0, 0):
            other.put(sign)
        self.check(one, other, [1, 0, 0, 1, 1], [1, 0, 1, 1], [0, 1, 1, 0, 0, 0])

    def test_both_go_their_own_ways_afterwards(self):
        one, other = filled(PLAIN, [1, 0]), filled(PLAIN, [1, 1, 1])
        one.joined(other)
        other.put(0)
        self.demand(one, PLAIN, [1, 0, 1, 1, 1])
        self.demand(other, PLAIN, [1, 1, 1, 0])
        one.put(1)
        self.demand(one, PLAIN, [1, 0, 1, 1, 1, 1])
        self.demand(other, PLAIN, [1, 1, 1, 0])
        other.anew()
        self.demand(one, PLAIN, [1, 0, 1, 1, 1, 1])
        empty = Register(Gate(PLAIN))
        empty.joined(one)
        one.put(1)
        self.demand(empty, PLAIN, [1, 0, 1, 1, 1, 1])

    def test_its_own_signs_once_more(self):
        for divisor in divisors_to(6):
            row = some_row(len(divisor), 5)
            taker = filled(divisor, row)
            for _ in range(6):
                self.assertIsNone(taker.joined(taker))
                row = row + row
                self.demand(taker, divisor, row)
        empty = Register(Gate(PLAIN))
        empty.joined(empty)
        self.demand(empty, PLAIN, [])

    def test_its_own_signs_over_and_over_to_very_many(self):
        start = time.perf_counter()
        for divisor in ([1, 1], PLAIN, [1, 0, 1, 1, 1, 1], [1, 0, 0, 0, 0, 0, 1, 0, 1, 0, 0, 1, 1], [1] * 13):
            by, width = number_of(divisor), len(divisor) - 1
            taker = filled(divisor, [1])
            rest, many = rest_of(1, by), 1
            for _ in range(59):
                taker.joined(taker)
                rest = rest_of(product_of(rest, rest_of_yes_at(many, by)) ^ rest, by)
                many = 2 * many
                self.assertEqual((taker.many, taker.rest()), (many, row_of(rest, width)))
                self.assertEqual(taker.check(), row_of(rest_of(rest << width, by), width))
            self.stays(taker, TooLong, taker.joined, taker)
        self.assertLess(time.perf_counter() - start, 20)

    def test_just_10_to_the_18_signs_and_one_more(self):
        for divisor in ([1, 1], PLAIN, [1] * 13):
            by, width = number_of(divisor), len(divisor) - 1
            half = grown(divisor, MOST // 2)
            self.assertEqual(half.many, MOST // 2)
            one_more = grown(divisor, MOST // 2 + 1)
            before = told(one_more)
            self.stays(half, TooLong, half.joined, one_more)
            self.assertEqual(told(one_more), before)
            self.stays(one_more, TooLong, one_more.joined, half)
            half_rest = number_of(half.rest())
            half.joined(half)
            self.assertEqual(half.many, MOST)
            rest = rest_of(product_of(half_rest, rest_of_yes_at(MOST // 2, by)) ^ half_rest, by)
            self.assertEqual(half.rest(), row_of(rest, width))
            empty, one = Register(Gate(divisor)), filled(divisor, [1])
            full = told(half)
            half.joined(empty)
            self.assertEqual(told(half), full)
            self.stays(half, TooLong, half.joined, one)
            self.stays(one, TooLong, one.joined, half)
            self.stays(half, TooLong, half.joined, half)
            empty.joined(half)
            self.assertEqual(told(empty), full)
            half.anew()
            self.demand(half, divisor, [])

    def test_what_is_no_mate_changes_nothing(self):
        gate = Gate(PLAIN)
        taker = filled(PLAIN, [1, 1, 0, 1])
        others = [
            None, [], [1, 0], gate, PLAIN, 0, 1, 7, True, "", "101", (), {}, b"1", object(), Register,
            filled([1, 1, 0, 1], [1, 0]), filled([1, 1, 1, 1], [1, 0]), filled([1, 0, 0, 1], []),
            filled([1, 1], [1, 0]), filled([1, 0, 0, 1, 1], [1, 0]), filled([1] * 13, []),
        ]
        for other in others:
            with self.subTest(other=other):
                before = told(other) if isinstance(other, Register) else None
                self.stays(taker, NoMate, taker.joined, other)
                if before is not None:
                    self.assertEqual(told(other), before)
        taker.put(1)
        self.demand(taker, PLAIN, [1, 1, 0, 1, 1])

    def test_no_mate_comes_ahead_of_too_long(self):
        full = grown(PLAIN, MOST)
        for divisor in ([1, 1, 0, 1], [1, 0, 0, 1], [1, 1], [1] * 13):
            other = grown(divisor, MOST)
            before = told(other)
            self.stays(full, NoMate, full.joined, other)
            self.assertEqual(told(other), before)
            self.stays(other, NoMate, other.joined, full)
        for other in (None, [1], Gate(PLAIN), MOST, "1"):
            self.stays(full, NoMate, full.joined, other)


if __name__ == "__main__":
    unittest.main()
