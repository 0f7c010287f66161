"""Point 5: what a gate's divisor is, and its reach."""

import unittest

from crcgate.errors import NoDivisor, NoRow
from crcgate.reaches import reach
from tests.helping import gate_divisors, reach_by_words, some_row, wrong_rows


class TestReach(unittest.TestCase):
    def check(self, divisor):
        given = reach(divisor)
        self.assertIs(type(given), int)
        width = len(divisor) - 1
        self.assertTrue(width <= given <= 2 ** width - 1, (divisor, given))
        self.assertEqual(given, reach_by_words(divisor), divisor)

    def test_it_is_defined_in_this_file(self):
        self.assertEqual(reach.__module__, "crcgate.reaches")

    def test_the_three_examples(self):
        self.assertEqual(reach([1, 1]), 1)
        self.assertEqual(reach([1, 1, 1]), 3)
        self.assertEqual(reach([1, 0, 1]), 2)

    def test_all_divisors_of_2_to_9_signs(self):
        for length in range(2, 10):
            for divisor in gate_divisors(length):
                self.check(divisor)

    def test_some_divisors_of_10_to_13_signs(self):
        for length in range(10, 14):
            for seed in range(4):
                self.check([1] + some_row(100 * length + seed, length - 2) + [1])

    def test_the_least_reaches(self):
        for length in range(3, 14):
            self.assertEqual(reach([1] + [0] * (length - 2) + [1]), length - 1)
            self.assertEqual(reach([1] * length), length)

    def test_the_greatest_reaches(self):
        self.assertEqual(reach([1, 0, 0, 1, 1]), 15)
        self.assertEqual(reach([1, 0, 0, 0, 0, 0, 0, 1, 0, 0, 1]), 1023)
        self.assertEqual(reach([1, 0, 0, 0, 0, 0, 1, 0, 1, 0, 0, 1, 1]), 4095)

    def test_no_divisor_for_its_length(self):
        for divisor in ([], [0], [1], [1] * 14, [1] + [0] * 12 + [1], [1] + [0] * 13 + [1], [1] * 40):
            with self.subTest(divisor=divisor):
                with self.assertRaises(NoDivisor):
                    reach(divisor)

    def test_no_divisor_for_its_ends(self):
        for length in range(2, 14):
            middle = some_row(length, length - 2)
            for first, last in ((0, 0), (0, 1), (1, 0)):
                with self.subTest(length=length, first=first, last=last):
                    with self.assertRaises(NoDivisor):
                        reach([first] + middle + [last])

    def test_what_is_no_row_is_refused_ahead(self):
        for wrong in wrong_rows():
            with self.subTest(wrong=wrong):
                with self.assertRaises(NoRow):
                    reach(wrong)
        for wrong in ([0, 2], [0, True, 0], [True], [1] * 14 + [None], [2] + [1] * 13, (0,), "0"):
            with self.subTest(wrong=wrong):
                with self.assertRaises(NoRow):
                    reach(wrong)

    def test_the_divisor_stays(self):
        divisor = [1, 0, 0, 1, 1]
        self.assertEqual(reach(divisor), 15)
        self.assertEqual(divisor, [1, 0, 0, 1, 1])
        divisor[3] = 0
        self.assertEqual(reach(divisor), reach_by_words(divisor))
        self.assertEqual(reach([1, 0, 0, 1, 1]), 15)
