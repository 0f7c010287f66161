"""Points 1 to 4: rows, sums, products, parting."""

import unittest

from crcgate import rows
from crcgate.errors import NoDivisor, NoRow
from crcgate.rows import added, parted, times
from tests.helping import (
    all_rows, check_signs, number_of, product_of, rest_of, row_of, some_row, wrong_rows,
)

SMALL = [row for length in range(5) for row in all_rows(length)]


class TestRows(unittest.TestCase):
    """Point 1, for the functions of crcgate.rows."""

    def test_they_are_defined_in_this_file(self):
        for function in (added, times, parted):
            self.assertEqual(function.__module__, "crcgate.rows")
            self.assertIs(getattr(rows, function.__name__), function)

    def test_the_last_sign_stands_for_the_power_0(self):
        self.assertEqual(times([1, 0, 1, 1], [1, 0]), [1, 0, 1, 1, 0])
        self.assertEqual(added([1, 0, 1, 1], [1]), [1, 0, 1, 0])

    def test_signs_given_are_whole_numbers_and_no_truths(self):
        for one in SMALL:
            for other in SMALL:
                check_signs(self, added(one, other))
                check_signs(self, times(one, other))
                if other and other[0] == 1:
                    for row in parted(one, other):
                        check_signs(self, row)

    def test_a_wrong_first_row_is_refused(self):
        for function in (added, times, parted):
            for wrong in wrong_rows():
                with self.subTest(function=function.__name__, wrong=wrong):
                    with self.assertRaises(NoRow):
                        function(wrong, [1, 0, 1])

    def test_a_wrong_second_row_is_refused(self):
        for function in (added, times, parted):
            for right in ([], [1], [1, 0, 1, 1, 0, 1]):
                for wrong in wrong_rows():
                    with self.subTest(function=function.__name__, wrong=wrong):
                        with self.assertRaises(NoRow):
                            function(right, wrong)

    def test_two_wrong_rows_are_refused(self):
        for function in (added, times, parted):
            for wrong in ((1,), "1", None, 1, [True], [2], [[1]]):
                with self.assertRaises(NoRow):
                    function(wrong, wrong)

    def test_the_first_row_is_looked_at_first(self):
        for function in (added, times, parted):
            seen = []
            first = Watched([1, 0, 2], seen, "first")
            second = Watched([1, 0, 2], seen, "second")
            with self.assertRaises(NoRow):
                function(first, second)
            self.assertIn("first", seen)
            self.assertNotIn("second", seen)

    def test_a_member_wrong_at_any_place_of_a_long_row_is_refused(self):
        for place in (0, 1, 2150, 4298, 4299):
            row = some_row(place, 4300)
            row[place] = bool(row[place])
            for function in (added, times, parted):
                with self.assertRaises(NoRow):
                    function(row, [1, 0, 1])

    def test_what_is_handed_in_stays_and_is_not_kept(self):
        cases = [(added, [1, 0, 1], [1, 1, 0, 1]), (added, [1, 0], [1, 1]), (added, [1], []),
                 (added, [], [1]), (added, [], []), (times, [1, 0, 1], [1, 1]), (times, [1], [1, 0, 1]),
                 (times, [1, 0, 1], [1]), (times, [], [1, 1]), (times, [], [])]
        for function, one, other in cases:
            with self.subTest(function=function.__name__, one=one, other=other):
                first, second = list(one), list(other)
                given = function(first, second)
                copy = list(given)
                self.assertEqual((first, second), (one, other))
                first.append(1)
                second.insert(0, 1)
                self.assertEqual(given, copy)
                given.append(1)
                self.assertEqual((first, second), (one + [1], [1] + other))
                self.assertEqual(function(one, other), copy)

    def test_what_is_handed_into_parted_stays_and_is_not_kept(self):
        for row in ([], [1], [1, 0, 1], [1, 1, 0, 1, 0, 1, 1]):
            for divisor in ([1], [1, 1], [1, 0, 1, 1], [1, 0, 0, 0]):
                with self.subTest(row=row, divisor=divisor):
                    first, second = list(row), list(divisor)
                    quotient, rest = parted(first, second)
                    copies = (list(quotient), list(rest))
                    self.assertIsNot(quotient, rest)
                    self.assertEqual((first, second), (row, divisor))
                    first.append(1)
                    second.append(1)
                    self.assertEqual((quotient, rest), copies)
                    quotient.append(1)
                    self.assertEqual(rest, copies[1])
                    rest.append(1)
                    self.assertEqual((first, second), (row + [1], divisor + [1]))
                    self.assertEqual(parted(row, divisor), copies)

    def test_one_list_may_be_handed_in_twice(self):
        row = [1, 0, 1, 1]
        self.assertEqual(added(row, row), [0, 0, 0, 0])
        self.assertEqual(times(row, row), [1, 0, 0, 0, 1, 0, 1])
        self.assertEqual(parted(row, row), ([1], [0, 0, 0]))
        self.assertEqual(row, [1, 0, 1, 1])


class Watched(list):
    """A list that tells when its members are asked for."""

    def __init__(self, members, seen, name):
        list.__init__(self, members)
        self.seen = seen
        self.name = name

    def __iter__(self):
        self.seen.append(self.name)
        return list.__iter__(self)

    def __getitem__(self, at):
        self.seen.append(self.name)
        return list.__getitem__(self, at)


class TestAdded(unittest.TestCase):
    """Point 2."""

    def check(self, one, other):
        total = added(one, other)
        length = max(len(one), len(other))
        self.assertEqual(len(total), length)
        for power in range(length):
            first = one[-1 - power] if power < len(one) else 0
            second = other[-1 - power] if power < len(other) else 0
            self.assertEqual(total[-1 - power], (first + second) % 2)

    def test_signs_are_added_without_a_carry(self):
        self.assertEqual(added([1], [1]), [0])
        self.assertEqual(added([1], [0]), [1])
        self.assertEqual(added([0], [1]), [1])
        self.assertEqual(added([0], [0]), [0])
        self.assertEqual(added([0, 1, 1], [0, 0, 1]), [0, 1, 0])

    def test_rows_of_different_lengths_meet_at_the_power_0(self):
        self.assertEqual(added([1, 1, 0, 1], [1, 1]), [1, 1, 1, 0])
        self.assertEqual(added([1, 1], [1, 1, 0, 1]), [1, 1, 1, 0])

    def test_empty_rows(self):
        self.assertEqual(added([], []), [])
        self.assertEqual(added([], [0, 1]), [0, 1])
        self.assertEqual(added([0, 1], []), [0, 1])

    def test_first_signs_of_0_stay(self):
        self.assertEqual(added([1, 1], [1, 1]), [0, 0])
        self.assertEqual(added([0, 0, 0], [1]), [0, 0, 1])

    def test_all_small_rows(self):
        for one in SMALL:
            for other in SMALL:
                self.check(one, other)

    def test_long_rows(self):
        for m, n in ((4300, 4300), (4300, 1), (1, 4300), (4300, 0), (0, 4300), (4300, 2999), (17, 4299)):
            self.check(some_row(m, m), some_row(n + 1, n))


class TestTimes(unittest.TestCase):
    """Point 3."""

    def check(self, one, other):
        product = times(one, other)
        if not one or not other:
            self.assertEqual(product, [])
            return
        self.assertEqual(len(product), len(one) + len(other) - 1)
        sums = [0] * len(product)
        for a in range(len(one)):
            for b in range(len(other)):
                sums[a + b] += one[-1 - a] * other[-1 - b]
        for power in range(len(product)):
            self.assertEqual(product[-1 - power], sums[power] % 2)

    def test_products_written_out(self):
        self.assertEqual(times([1, 1], [1, 1]), [1, 0, 1])
        self.assertEqual(times([1, 0, 1, 1], [1, 1]), [1, 1, 1, 0, 1])
        self.assertEqual(times([1], [1]), [1])
        self.assertEqual(times([1], [0]), [0])

    def test_no_signs_where_one_row_has_none(self):
        self.assertEqual(times([], []), [])
        for other in ([0], [1], [1, 1], [1, 0, 1, 1, 0]):
            self.assertEqual(times([], other), [])
            self.assertEqual(times(other, []), [])

    def test_first_signs_of_0_stay(self):
        self.assertEqual(times([0, 0, 1], [0, 1, 1]), [0, 0, 0, 1, 1])
        self.assertEqual(times([0, 0], [0, 0, 0]), [0, 0, 0, 0])

    def test_all_small_rows(self):
        for one in SMALL:
            for other in SMALL:
                self.check(one, other)

    def test_products_of_up_to_100_signs(self):
        for m, n in ((1, 100), (100, 1), (50, 51), (51, 50), (40, 61), (30, 30), (99, 2)):
            self.check(some_row(m, m), some_row(n + 1, n))
        self.check([1] * 50, [1] * 51)
        self.check([0] * 50, [1] * 51)


class TestParted(unittest.TestCase):
    """Point 4."""

    def check(self, row, divisor):
        pair = parted(row, divisor)
        self.assertIs(type(pair), tuple)
        self.assertEqual(len(pair), 2)
        quotient, rest = pair
        check_signs(self, quotient)
        check_signs(self, rest)
        width = len(divisor) - 1
        self.assertEqual(len(rest), width)
        self.assertEqual(len(quotient), max(len(row) - width, 0))
        again = product_of(number_of(quotient), number_of(divisor)) ^ number_of(rest)
        self.assertEqual(again, number_of(row))
        self.assertEqual(number_of(rest), rest_of(number_of(row), number_of(divisor)))

    def test_pairs_written_out(self):
        self.assertEqual(parted([1, 1, 0, 1], [1, 0, 1]), ([1, 1], [1, 0]))
        self.assertEqual(parted([1, 0, 1, 1], [1, 1]), ([1, 1, 0], [1]))
        self.assertEqual(parted([1, 0, 0, 1], [1, 1, 1]), ([1, 1], [0, 0]))

    def test_a_row_shorter_than_the_width(self):
        self.assertEqual(parted([], [1, 0, 1, 1]), ([], [0, 0, 0]))
        self.assertEqual(parted([1], [1, 0, 1, 1]), ([], [0, 0, 1]))
        self.assertEqual(parted([1, 0], [1, 0, 1, 1]), ([], [0, 1, 0]))

    def test_a_row_as_long_as_the_width(self):
        self.assertEqual(parted([1, 0, 1], [1, 0, 1, 1]), ([], [1, 0, 1]))
        self.assertEqual(parted([0, 0, 1], [1, 0, 1, 1]), ([], [0, 0, 1]))

    def test_a_row_longer_than_the_width_by_one(self):
        self.assertEqual(parted([1, 1, 0, 1], [1, 0, 1, 1]), ([1], [1, 1, 0]))
        self.assertEqual(parted([0, 1, 0, 1], [1, 0, 1, 1]), ([0], [1, 0, 1]))

    def test_the_divisor_of_the_width_0(self):
        self.assertEqual(parted([], [1]), ([], []))
        self.assertEqual(parted([0], [1]), ([0], []))
        self.assertEqual(parted([1, 0, 1, 1], [1]), ([1, 0, 1, 1], []))

    def test_divisors_that_end_with_0(self):
        self.assertEqual(parted([1, 0, 1, 1], [1, 0]), ([1, 0, 1], [1]))
        self.assertEqual(parted([1, 1, 1, 1], [1, 0, 0]), ([1, 1], [1, 1]))
        self.assertEqual(parted([1, 1, 1], [1, 1, 0]), ([1], [0, 1]))

    def test_rows_that_begin_with_0(self):
        self.assertEqual(parted([0, 0, 1, 1], [1, 1]), ([0, 0, 1], [0]))
        self.assertEqual(parted([0, 0, 0], [1, 1]), ([0, 0], [0]))

    def test_all_small_rows_by_all_small_divisors(self):
        for length in range(8):
            for row in all_rows(length):
                for divisor in SMALL:
                    if divisor and divisor[0] == 1:
                        self.check(row, divisor)

    def test_long_rows(self):
        for length in (4300, 4299, 2000, 14, 13, 12):
            for many in (1, 2, 5, 13, 14):
                self.check(some_row(length, length), [1] + some_row(many, many - 1))
        self.check([1] * 4300, [1] * 14)
        self.check([0] * 4300, [1] + [0] * 13)

    def test_long_divisors(self):
        for length in (150, 149, 100, 61, 60, 59, 1, 0):
            for many in (61, 60, 40, 15):
                self.check(some_row(length, length), [1] + some_row(many, many - 1))
                self.check(some_row(length, length), [1] + some_row(many, many - 2) + [0])
        self.check([1] * 150, [1] * 61)

    def test_product_and_rest_added_give_the_row_again(self):
        for length in range(0, 100, 7):
            row = some_row(length, length)
            for many in (2, 3, 8, 14):
                divisor = [1] + some_row(many, many - 1)
                quotient, rest = parted(row, divisor)
                again = added(times(quotient, divisor), rest)
                self.assertEqual(row_of(number_of(again), length), row)
                self.assertEqual(number_of(again), number_of(row))

    def test_what_is_no_divisor_is_refused(self):
        for row in ([], [1], [1, 0, 1, 1]):
            for divisor in ([], [0], [0, 0], [0, 1], [0, 1, 1], [0] + [1] * 13):
                with self.subTest(row=row, divisor=divisor):
                    with self.assertRaises(NoDivisor):
                        parted(row, divisor)

    def test_a_wrong_row_is_refused_ahead_of_a_wrong_divisor(self):
        for wrong in wrong_rows():
            for divisor in ([], [0], [0, 1, 1], None, (1, 1), [2]):
                with self.subTest(wrong=wrong, divisor=divisor):
                    with self.assertRaises(NoRow):
                        parted(wrong, divisor)

    def test_a_divisor_that_is_no_row_and_begins_with_0_is_refused_as_no_row(self):
        for divisor in ((), (0, 1), "", "011", [0, 2], [0, True], [0, 1, None]):
            with self.subTest(divisor=divisor):
                with self.assertRaises(NoRow):
                    parted([1, 0, 1], divisor)
