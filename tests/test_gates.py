"""Points 1 and 5 to 11 and 13: gates."""

import inspect
import time
import unittest

from crcgate import gates
from crcgate.errors import Broken, NoCount, NoDivisor, NoRow, TooLong, TooShort
from crcgate.gates import Gate
from tests.helping import (
    all_rows, check_signs, divisors_to, gate_divisors, long_divisors, number_of, product_of, reach_by_words,
    refused, rest_by_words, rest_of, rest_of_yes_at, row_of, some_row, with_turned, wrong_rows,
)

METHODS = ("rest", "later", "check", "sealed", "holds", "opened", "mended")
OF_A_ROW = ("rest", "check", "sealed", "holds", "opened", "mended")
# The divisor of the reach 7 and the width 3 that many tests below write out.
PLAIN = [1, 0, 1, 1]
MOST = 10 ** 18


def lengths_to_try(gate):
    """Numbers of signs that a row of this gate may have: all, or some of many."""
    lengths = set(range(gate.width, min(gate.reach, gate.width + 8) + 1))
    return sorted(lengths | {(gate.width + gate.reach) // 2, gate.reach - 1, gate.reach} - {gate.width - 1})


class TestInterface(unittest.TestCase):
    def test_it_is_defined_in_this_file(self):
        self.assertEqual(Gate.__module__, "crcgate.gates")
        self.assertIs(gates.Gate, Gate)

    def test_each_method_is_defined_in_the_class(self):
        for name in METHODS:
            self.assertTrue(inspect.isfunction(vars(Gate)[name]), name)

    def test_the_fields_are_set_on_each_object(self):
        for name in ("divisor", "width", "reach", "even"):
            self.assertIn(name, vars(Gate(PLAIN)))


class TestMaking(unittest.TestCase):
    """Points 5 and 6: what a gate is made of."""

    def check(self, divisor):
        gate = Gate(divisor)
        self.assertEqual(gate.divisor, divisor)
        check_signs(self, gate.divisor)
        self.assertIsNot(gate.divisor, divisor)
        self.assertIs(type(gate.width), int)
        self.assertEqual(gate.width, len(divisor) - 1)
        self.assertIs(type(gate.reach), int)
        self.assertEqual(gate.reach, reach_by_words(divisor))
        self.assertIs(gate.even, len([sign for sign in divisor if sign == 1]) % 2 == 0)

    def test_fields_written_out(self):
        gate = Gate([1, 1])
        self.assertEqual((gate.divisor, gate.width, gate.reach, gate.even), ([1, 1], 1, 1, True))
        gate = Gate([1, 1, 1])
        self.assertEqual((gate.divisor, gate.width, gate.reach, gate.even), ([1, 1, 1], 2, 3, False))
        gate = Gate([1, 0, 1])
        self.assertEqual((gate.divisor, gate.width, gate.reach, gate.even), ([1, 0, 1], 2, 2, True))
        gate = Gate([1, 1, 1, 0, 1])
        self.assertEqual((gate.divisor, gate.width, gate.reach, gate.even), ([1, 1, 1, 0, 1], 4, 7, True))

    def test_all_divisors_of_2_to_9_signs(self):
        for divisor in divisors_to(9):
            self.check(divisor)

    def test_some_divisors_of_9_to_13_signs(self):
        for divisor in long_divisors():
            self.check(divisor)

    def test_the_list_handed_in_is_neither_changed_nor_kept(self):
        handed = list(PLAIN)
        gate = Gate(handed)
        self.assertEqual(handed, PLAIN)
        handed[2] = 0
        handed.append(1)
        self.assertEqual(gate.divisor, PLAIN)
        self.assertEqual(gate.rest([1, 0, 1, 1]), [0, 0, 0])
        self.assertEqual(gate.check([1]), [0, 1, 1])

    def test_two_gates_do_not_share_a_divisor(self):
        one, other = Gate(PLAIN), Gate(PLAIN)
        self.assertIsNot(one.divisor, other.divisor)

    def test_the_fields_stay_whatever_is_asked(self):
        gate = Gate(PLAIN)
        gate.rest([1] * 20)
        gate.later([1, 0, 1], 10 ** 9)
        gate.check([1, 1])
        row = gate.sealed([1, 0, 1, 1])
        gate.holds(row)
        gate.opened(row)
        gate.mended(with_turned(row, [2]))
        refused(self, Broken, gate.opened, with_turned(row, [2]))
        self.assertEqual((gate.divisor, gate.width, gate.reach, gate.even), (PLAIN, 3, 7, False))

    def test_no_divisor_for_its_length(self):
        for divisor in ([], [0], [1], [1] * 14, [1] + [0] * 12 + [1], [1] + [0] * 13 + [1], [1] * 40):
            with self.subTest(divisor=divisor):
                refused(self, NoDivisor, Gate, divisor)

    def test_no_divisor_for_its_ends(self):
        for length in range(2, 14):
            middle = some_row(length, length - 2)
            for first, last in ((0, 0), (0, 1), (1, 0)):
                with self.subTest(length=length, first=first, last=last):
                    refused(self, NoDivisor, Gate, [first] + middle + [last])

    def test_what_is_no_row_is_refused_ahead(self):
        more = [[0, 2], [0, True, 0], [True], [1] * 14 + [None], [2] + [1] * 13, [True] + [1] * 5, (0,), "0"]
        for wrong in wrong_rows() + more:
            with self.subTest(wrong=wrong):
                refused(self, NoRow, Gate, wrong)

    def test_a_gate_of_13_signs_takes_no_long_time(self):
        start = time.perf_counter()
        gate = Gate([1, 0, 0, 0, 0, 0, 1, 0, 1, 0, 0, 1, 1])
        self.assertLess(time.perf_counter() - start, 1)
        self.assertEqual(gate.reach, 4095)


class TestRows(unittest.TestCase):
    """Point 1, for the methods of a gate."""

    def asked(self):
        """A gate, and what each of its methods may be asked, with a row for answer."""
        gate = Gate(PLAIN)
        held = gate.sealed([1, 0, 1])
        return gate, [
            (gate.rest, [1, 0, 1, 1, 0, 1]), (gate.rest, [1, 1]), (gate.rest, [1, 0, 1]), (gate.rest, []),
            (gate.check, [1, 1, 0, 1, 1]), (gate.check, [1]), (gate.check, []),
            (gate.sealed, [1, 1, 0, 1]), (gate.sealed, [1]), (gate.sealed, []),
            (gate.opened, held), (gate.opened, [0, 0, 0]),
            (gate.mended, held), (gate.mended, with_turned(held, [1])), (gate.mended, with_turned(held, [5])),
            (lambda row: gate.later(row, 0), [1, 0, 1]), (lambda row: gate.later(row, 1), [1, 0, 1]),
            (lambda row: gate.later(row, 7), [1, 0, 1]), (lambda row: gate.later(row, MOST), [0, 1, 1]),
        ]

    def test_what_is_handed_in_stays_and_is_not_kept(self):
        gate, asked = self.asked()
        for number, (method, row) in enumerate(asked):
            with self.subTest(number=number, row=row):
                handed = list(row)
                given = method(handed)
                copy = list(given)
                self.assertEqual(handed, row)
                self.assertIsNot(given, handed)
                given.append(1)
                given[0] = 1 - given[0]
                self.assertEqual(handed, row)
                self.assertEqual(method(row), copy)
                self.assertEqual(gate.divisor, PLAIN)

    def test_a_row_that_was_given_stays(self):
        gate, asked = self.asked()
        for number, (method, row) in enumerate(asked):
            with self.subTest(number=number, row=row):
                handed = list(row)
                given = method(handed)
                copy = list(given)
                handed.append(1)
                handed[0] = 1 - handed[0]
                for other, again in asked:
                    other(list(again))
                self.assertEqual(given, copy)
                self.assertIsNot(method(row), given)
                check_signs(self, given)

    def test_a_row_that_is_looked_at_stays(self):
        gate = Gate(PLAIN)
        for row in ([0, 0, 0], [1, 0, 1, 1], [1, 0, 0, 1], [1] * 7):
            handed = list(row)
            gate.holds(handed)
            self.assertEqual(handed, row)

    def test_a_row_that_is_refused_stays(self):
        gate = Gate(PLAIN)
        cases = [
            (Broken, gate.opened, [1, 0, 0, 1]), (TooShort, gate.opened, [1, 0]), (TooLong, gate.opened, [1] * 8),
            (Broken, gate.mended, [0, 1, 1]), (TooShort, gate.mended, [1, 0]), (TooLong, gate.mended, [1] * 8),
            (TooShort, gate.holds, [1, 0]), (TooLong, gate.holds, [1] * 8), (TooLong, gate.sealed, [1] * 5),
        ]
        for kind, method, row in cases:
            handed = list(row)
            refused(self, kind, method, handed)
            self.assertEqual(handed, row)

    def test_what_is_no_row_is_refused_ahead_of_all_else(self):
        for divisor in ([1, 1], PLAIN, [1, 0, 0, 0, 0, 0, 0, 1, 0, 0, 1]):
            gate = Gate(divisor)
            for wrong in wrong_rows():
                for name in OF_A_ROW:
                    with self.subTest(divisor=divisor, name=name, wrong=wrong):
                        refused(self, NoRow, getattr(gate, name), wrong)
                for many in (0, 3, -1, MOST + 1, True, None, "3"):
                    with self.subTest(divisor=divisor, many=many, wrong=wrong):
                        refused(self, NoRow, gate.later, wrong, many)

    def test_a_member_wrong_at_any_place_of_any_length_is_refused(self):
        gate = Gate(PLAIN)
        for length in range(1, 12):
            for place in range(length):
                for member in (True, False, 2, -1, "1", None, [1]):
                    row = [0] * length
                    row[place] = member
                    for name in OF_A_ROW:
                        refused(self, NoRow, getattr(gate, name), row)
                    refused(self, NoRow, gate.later, row, 2)
                    refused(self, NoRow, gate.later, row, -1)

    def test_a_wrong_member_of_a_long_row_is_refused(self):
        gate = Gate(PLAIN)
        for place in (0, 2100, 4199):
            row = some_row(place, 4200)
            row[place] = bool(row[place])
            for name in OF_A_ROW:
                refused(self, NoRow, getattr(gate, name), row)


class TestRest(unittest.TestCase):
    """Point 6."""

    def check(self, gate, row):
        rest = gate.rest(row)
        check_signs(self, rest)
        self.assertEqual(rest, rest_by_words(row, gate.divisor), (gate.divisor, row))

    def test_rests_written_out(self):
        self.assertEqual(Gate([1, 0, 1]).rest([1, 1, 0, 1]), [1, 0])
        self.assertEqual(Gate([1, 1]).rest([1, 0, 1, 1]), [1])
        self.assertEqual(Gate(PLAIN).rest([1, 1, 0, 1]), [1, 1, 0])

    def test_rows_no_longer_than_the_width(self):
        gate = Gate(PLAIN)
        self.assertEqual(gate.rest([]), [0, 0, 0])
        self.assertEqual(gate.rest([1]), [0, 0, 1])
        self.assertEqual(gate.rest([1, 0]), [0, 1, 0])
        self.assertEqual(gate.rest([1, 0, 1]), [1, 0, 1])

    def test_all_divisors_of_2_to_8_signs(self):
        for divisor in divisors_to(8):
            gate = Gate(divisor)
            for length in (0, 1, gate.width - 1, gate.width, gate.width + 1, gate.reach, gate.reach + 1, 99):
                self.check(gate, some_row(length, length))
                self.check(gate, [1] * length)

    def test_all_short_rows(self):
        for divisor in divisors_to(4):
            gate = Gate(divisor)
            for length in range(8):
                for row in all_rows(length):
                    self.check(gate, row)

    def test_long_divisors_and_long_rows(self):
        for divisor in long_divisors():
            gate = Gate(divisor)
            for length in (0, 5, gate.width, gate.width + 1, 300, 4200):
                self.check(gate, some_row(length + 7, length))


class TestLater(unittest.TestCase):
    """Point 7."""

    def test_few_noughts_written_out(self):
        gate = Gate(PLAIN)
        self.assertEqual(gate.later([1, 0, 1], 0), [1, 0, 1])
        self.assertEqual(gate.later([1, 0, 1], 1), [0, 0, 1])
        self.assertEqual(gate.later([0, 0, 1], 2), [1, 0, 0])
        self.assertEqual(gate.later([0, 0, 1], 3), [0, 1, 1])
        self.assertEqual(gate.later([1, 0, 1], 7), [1, 0, 1])
        self.assertEqual(gate.later([0, 0, 0], 5), [0, 0, 0])

    def test_few_noughts_put_behind_the_row(self):
        for divisor in divisors_to(6):
            gate = Gate(divisor)
            for length in (0, 1, gate.width, gate.width + 5):
                row = some_row(length, length)
                rest = gate.rest(row)
                near = {0, 1, 2, gate.width, gate.reach - 1, gate.reach, gate.reach + 1, 2 * gate.reach, 70}
                for many in sorted(near):
                    given = gate.later(rest, many)
                    check_signs(self, given)
                    self.assertEqual(given, rest_by_words(row + [0] * many, divisor))

    def test_every_rest(self):
        for divisor in divisors_to(5):
            gate = Gate(divisor)
            for rest in all_rows(gate.width):
                for many in range(gate.reach + 3):
                    self.assertEqual(gate.later(rest, many), rest_by_words(rest + [0] * many, divisor))

    def test_many_noughts(self):
        for divisor in divisors_to(6) + long_divisors():
            gate = Gate(divisor)
            rest = some_row(gate.width, gate.width - 1) + [1]
            for many in (MOST, MOST - 1, 10 ** 17 + 3, 2 ** 59 - 1, 10 ** 9, 5000, 4095):
                moved = product_of(number_of(rest), rest_of_yes_at(many, number_of(divisor)))
                by_words = row_of(rest_of(moved, number_of(divisor)), gate.width)
                self.assertEqual(gate.later(rest, many), by_words, (divisor, many))
                self.assertEqual(gate.later(rest, many % gate.reach), by_words, (divisor, many))

    def test_step_by_step_and_at_once(self):
        gate = Gate([1, 0, 0, 0, 0, 0, 0, 1, 0, 0, 1])
        rest = some_row(3, 10)
        by_steps = rest
        for many in range(1100):
            self.assertEqual(gate.later(rest, many), by_steps)
            by_steps = gate.later(by_steps, 1)

    def test_what_is_no_count(self):
        gate = Gate(PLAIN)
        for many in (-1, -2, -MOST, MOST + 1, 10 ** 19, 10 ** 40, True, False, None, "", "3", [], [3], (3,), {}, b"3"):
            for rest in ([0, 0, 0], [1, 0, 1]):
                with self.subTest(many=many):
                    refused(self, NoCount, gate.later, rest, many)

    def test_a_rest_of_a_wrong_length_is_refused_ahead(self):
        for divisor in ([1, 1], PLAIN, [1] * 13):
            gate = Gate(divisor)
            for length in (0, gate.width - 1, gate.width + 1, gate.reach + 5):
                if length != gate.width:
                    for many in (0, 1, MOST, -1, MOST + 1, True, None, "3"):
                        with self.subTest(divisor=divisor, length=length, many=many):
                            refused(self, NoRow, gate.later, some_row(length, length), many)


class TestCheckAndSealed(unittest.TestCase):
    """Points 8 and 9."""

    def check_one(self, gate, row):
        given = gate.check(row)
        check_signs(self, given)
        self.assertEqual(len(given), gate.width)
        self.assertNotIn(1, rest_by_words(row + given, gate.divisor))
        if len(row) + gate.width <= gate.reach:
            whole = gate.sealed(row)
            check_signs(self, whole)
            self.assertEqual(whole, row + given)
        else:
            refused(self, TooLong, gate.sealed, row)

    def test_written_out(self):
        gate = Gate(PLAIN)
        self.assertEqual(gate.check([1]), [0, 1, 1])
        self.assertEqual(gate.check([]), [0, 0, 0])
        self.assertEqual(gate.check([1, 1, 0, 1]), [0, 0, 1])
        self.assertEqual(gate.sealed([1, 1, 0, 1]), [1, 1, 0, 1, 0, 0, 1])
        self.assertEqual(gate.sealed([]), [0, 0, 0])

    def test_a_check_is_given_beyond_the_reach_too(self):
        gate = Gate([1, 1])
        self.assertEqual(gate.check([1, 0, 1, 1]), [1])
        refused(self, TooLong, gate.sealed, [1, 0, 1, 1])

    def test_all_divisors_of_2_to_8_signs(self):
        for divisor in divisors_to(8):
            gate = Gate(divisor)
            room = gate.reach - gate.width
            for length in sorted({0, 1, room, room + 1, room + 2, gate.width, 40}):
                self.check_one(gate, some_row(length, length))
                self.check_one(gate, [1] * length)

    def test_all_short_rows(self):
        for divisor in divisors_to(5):
            gate = Gate(divisor)
            for length in range(7):
                for row in all_rows(length):
                    self.check_one(gate, row)

    def test_there_is_no_other_check(self):
        for divisor in divisors_to(5):
            gate = Gate(divisor)
            for row in all_rows(3):
                fit = [check for check in all_rows(gate.width) if 1 not in gate.rest(row + check)]
                self.assertEqual(fit, [gate.check(row)])

    def test_rows_that_just_have_room_and_longer_ones(self):
        for divisor in long_divisors():
            gate = Gate(divisor)
            room = gate.reach - gate.width
            for length in sorted({0, 1, room // 2, max(room - 1, 0), room, room + 1}):
                self.check_one(gate, some_row(length, length))
            self.assertEqual(len(gate.sealed([1] * room)), gate.reach)
            refused(self, TooLong, gate.sealed, [0] * (room + 1))


class TestHoldsAndOpened(unittest.TestCase):
    """Points 10 and 11."""

    def check_one(self, gate, row):
        if len(row) < gate.width or len(row) > gate.reach:
            kind = TooShort if len(row) < gate.width else TooLong
            for name in ("holds", "opened", "mended"):
                refused(self, kind, getattr(gate, name), row)
            return
        by_words = 1 not in rest_by_words(row, gate.divisor)
        self.assertIs(gate.holds(row), by_words)
        if by_words:
            opened = gate.opened(row)
            check_signs(self, opened)
            self.assertEqual(opened, row[:len(row) - gate.width])
            self.assertEqual(gate.sealed(opened), row)
            self.assertEqual(gate.mended(row), row)
        else:
            refused(self, Broken, gate.opened, row)

    def test_written_out(self):
        gate = Gate(PLAIN)
        self.assertIs(gate.holds([1, 1, 0, 1, 0, 0, 1]), True)
        self.assertIs(gate.holds([1, 1, 0, 1, 0, 0, 0]), False)
        self.assertEqual(gate.opened([1, 1, 0, 1, 0, 0, 1]), [1, 1, 0, 1])
        self.assertEqual(gate.opened([0, 0, 0]), [])
        refused(self, Broken, gate.opened, [1, 1, 0, 1, 0, 0, 0])
        refused(self, Broken, gate.opened, [0, 0, 1])

    def test_all_short_rows(self):
        for divisor in divisors_to(5):
            gate = Gate(divisor)
            for length in range(10):
                for row in all_rows(length):
                    self.check_one(gate, row)

    def test_rows_of_every_length_to_beyond_the_reach(self):
        for divisor in divisors_to(6):
            gate = Gate(divisor)
            for length in range(gate.reach + 4):
                self.check_one(gate, some_row(length, length))
                self.check_one(gate, [0] * length)
                self.check_one(gate, [1] * length)

    def test_the_ends_of_longer_gates(self):
        for divisor in gate_divisors(8) + long_divisors():
            gate = Gate(divisor)
            for length in sorted({0, 1, gate.width - 1, gate.width, gate.reach, gate.reach + 1, gate.reach + 90}):
                self.check_one(gate, some_row(length, length))
                self.check_one(gate, [0] * length)

    def test_sealed_rows_hold_and_are_opened(self):
        for divisor in divisors_to(8) + long_divisors():
            gate = Gate(divisor)
            for length in lengths_to_try(gate):
                row = some_row(length, length - gate.width)
                whole = gate.sealed(row)
                self.assertIs(gate.holds(whole), True)
                self.assertEqual(gate.opened(whole), row)

    def test_a_reach_no_more_than_the_width(self):
        for width in range(1, 13):
            gate = Gate([1] + [0] * (width - 1) + [1])
            self.assertEqual(gate.reach, width)
            self.assertEqual(gate.sealed([]), [0] * width)
            self.assertIs(gate.holds([0] * width), True)
            self.assertEqual(gate.opened([0] * width), [])
            for place in range(width):
                row = with_turned([0] * width, [place])
                self.assertIs(gate.holds(row), False)
                refused(self, Broken, gate.opened, row)
            refused(self, TooLong, gate.sealed, [0])
            refused(self, TooShort, gate.holds, [0] * (width - 1))
            refused(self, TooLong, gate.holds, [0] * (width + 1))

    def test_too_short_and_too_long_come_ahead_of_broken(self):
        gate = Gate(PLAIN)
        for row in ([], [0], [1], [1, 1], [0, 0]):
            for name in ("holds", "opened", "mended"):
                refused(self, TooShort, getattr(gate, name), row)
        for row in ([0] * 8, [1] * 8, [1] + [0] * 7, [0] * 4200, [1, 0] * 30):
            for name in ("holds", "opened", "mended"):
                refused(self, TooLong, getattr(gate, name), row)


class TestMended(unittest.TestCase):
    """Point 13."""

    def test_written_out(self):
        gate = Gate(PLAIN)
        self.assertEqual(gate.mended([1, 1, 0, 1, 0, 0, 1]), [1, 1, 0, 1, 0, 0, 1])
        self.assertEqual(gate.mended([0, 1, 0, 1, 0, 0, 1]), [1, 1, 0, 1, 0, 0, 1])
        self.assertEqual(gate.mended([1, 1, 0, 1, 0, 0, 0]), [1, 1, 0, 1, 0, 0, 1])
        self.assertEqual(gate.mended([0, 0, 1]), [0, 0, 0])
        refused(self, Broken, gate.mended, [0, 1, 1])

    def test_each_sign_turned(self):
        for divisor in divisors_to(7):
            gate = Gate(divisor)
            for length in lengths_to_try(gate):
                whole = gate.sealed(some_row(length, length - gate.width))
                for place in range(length):
                    given = gate.mended(with_turned(whole, [place]))
                    check_signs(self, given)
                    self.assertEqual(given, whole)

    def test_signs_of_long_rows_turned(self):
        for divisor in long_divisors():
            gate = Gate(divisor)
            for length in sorted({gate.width, (gate.width + gate.reach) // 2, gate.reach}):
                whole = gate.sealed(some_row(length, length - gate.width))
                for place in sorted({0, 1, length // 3, length - gate.width, length - 2, length - 1}):
                    if 0 <= place < length:
                        self.assertEqual(gate.mended(with_turned(whole, [place])), whole)

    def test_every_row_by_the_words(self):
        for divisor in divisors_to(5):
            gate = Gate(divisor)
            for length in range(gate.width, min(gate.reach, 9) + 1):
                for row in all_rows(length):
                    if gate.holds(row):
                        self.assertEqual(gate.mended(row), row)
                        continue
                    near = [with_turned(row, [place]) for place in range(length)]
                    fit = [other for other in near if gate.holds(other)]
                    self.assertLessEqual(len(fit), 1)
                    if fit:
                        self.assertEqual(gate.mended(row), fit[0])
                    else:
                        refused(self, Broken, gate.mended, row)

    def test_a_place_beyond_the_row_mends_nothing(self):
        # Behind a yes at the power 4, the rest is [1, 1, 0]; the row ends at 3.
        gate = Gate(PLAIN)
        refused(self, Broken, gate.mended, [0, 1, 1, 0])
        self.assertEqual(gate.mended([0, 0, 1, 1, 0]), [1, 0, 1, 1, 0])

    def test_two_signs_turned_where_the_divisor_is_even(self):
        # An odd row can't come of an even one: no one sign mends two turned.
        for divisor in divisors_to(6):
            gate = Gate(divisor)
            if gate.even:
                whole = gate.sealed(some_row(9, gate.reach - gate.width))
                for place in range(1, gate.reach):
                    refused(self, Broken, gate.mended, with_turned(whole, [0, place]))


if __name__ == "__main__":
    unittest.main()
