"""Points 1 and 16: letters."""

import unittest

from crcgate import letters
from crcgate.errors import NoRow, NoText
from crcgate.letters import row_of, text_of
from tests import helping
from tests.helping import check_signs, refused, some_row, wrong_rows

NUMBERS = [number for number in range(32, 127) if number != 37]
ALL = "".join(chr(number) for number in NUMBERS)
NO_LETTERS = [number for number in range(128) if number not in NUMBERS]


def row_by_words(text):
    """The row of a text, as the point words it."""
    return [int(sign) for letter in text for sign in format(ord(letter), "07b")]


def some_text(seed, many):
    """A text that looks like chance, the same on each run."""
    signs = some_row(seed, 12 * many)
    return "".join(ALL[helping.number_of(signs[12 * k:12 * k + 12]) % 94] for k in range(many))


class TestLetters(unittest.TestCase):
    def check(self, text):
        row = row_of(text)
        check_signs(self, row)
        self.assertEqual(row, row_by_words(text))
        again = text_of(row)
        self.assertIs(type(again), str)
        self.assertEqual(again, text)

    def test_they_are_defined_in_this_file(self):
        for function in (row_of, text_of):
            self.assertEqual(function.__module__, "crcgate.letters")
            self.assertIs(getattr(letters, function.__name__), function)

    def test_written_out(self):
        self.assertEqual(row_of("A"), [1, 0, 0, 0, 0, 0, 1])
        self.assertEqual(row_of(" ~"), [0, 1, 0, 0, 0, 0, 0, 1, 1, 1, 1, 1, 1, 0])
        self.assertEqual(text_of([0, 1, 1, 0, 0, 0, 0, 1, 0, 0, 0, 0, 0, 1]), "0A")

    def test_the_empty_text(self):
        self.assertEqual(row_of(""), [])
        self.assertEqual(text_of([]), "")

    def test_each_letter(self):
        self.assertEqual(len(ALL), 94)
        for letter in ALL:
            self.check(letter)
            self.check(letter + "a")
            self.check(" " + letter)

    def test_texts_of_up_to_600_letters(self):
        self.check(ALL)
        self.check(ALL[::-1])
        for many in (2, 3, 10, 94, 333, 599, 600):
            self.check(some_text(many, many))
            self.check("~" * many)
            self.check(" " * many)

    def test_a_line_end_or_a_tab_at_any_place(self):
        for text in ("", "a", "row", "two words"):
            for place in range(len(text) + 1):
                for wrong in ("\n", "\t", "\r\n", "\n\n", "\t\n"):
                    with self.subTest(text=text, place=place, wrong=wrong):
                        refused(self, NoText, row_of, text[:place] + wrong + text[place:])
        refused(self, NoText, row_of, "a" * 599 + "\n")
        refused(self, NoText, row_of, "\t" + "a" * 599)

    def test_what_is_no_text(self):
        wrong = [None, 0, 1, 65, -1, True, False, [], ["a"], ["a", "b"], (), ("a",), {}, {"a": 1}, {"a"}, b"", b"a",
                 [1, 0, 0, 0, 0, 0, 1], object()]
        for text in wrong:
            with self.subTest(text=text):
                refused(self, NoText, row_of, text)

    def test_a_length_that_is_no_multiple_of_seven(self):
        for text in ("", "a", "two words"):
            row = row_of(text)
            for many in range(1, 7):
                refused(self, NoText, text_of, row + [0] * many)
                refused(self, NoText, text_of, row + [1] * many)
                if row:
                    refused(self, NoText, text_of, row[:-many])

    def test_seven_signs_that_are_no_letters_at_any_place(self):
        self.assertEqual(NO_LETTERS, list(range(32)) + [37, 127])
        for number in NO_LETTERS:
            wrong = helping.row_of(number, 7)
            for text in ("", "a", "row", "~ ~ ~"):
                for place in range(len(text) + 1):
                    with self.subTest(number=number, text=text, place=place):
                        refused(self, NoText, text_of, row_of(text[:place]) + wrong + row_of(text[place:]))

    def test_all_seven_signs(self):
        for number in range(128):
            row = helping.row_of(number, 7)
            if number in NUMBERS:
                self.assertEqual(text_of(row), chr(number))
            else:
                refused(self, NoText, text_of, row)

    def test_what_is_no_row(self):
        for wrong in wrong_rows():
            with self.subTest(wrong=wrong):
                refused(self, NoRow, text_of, wrong)

    def test_no_row_comes_ahead_of_no_text(self):
        for place in range(14):
            for member in (True, False, 2, -1, "1", None, [1]):
                for row in ([0] * 14, [1] * 14, [0] * 20, row_of("ab")):
                    refused(self, NoRow, text_of, row[:place] + [member] + row[place + 1:])

    def test_rows_stay_and_are_not_kept(self):
        handed = row_of("row")
        copy = list(handed)
        self.assertEqual(text_of(handed), "row")
        self.assertEqual(handed, copy)
        handed[0] = 0
        handed.append(1)
        self.assertEqual(row_of("row"), copy)
        self.assertEqual(text_of(copy), "row")
        self.assertIsNot(row_of("row"), row_of("row"))
        given = row_of("a")
        row_of("b").append(1)
        self.assertEqual(given, row_by_words("a"))
        wrong = [0] * 7
        refused(self, NoText, text_of, wrong)
        self.assertEqual(wrong, [0] * 7)


if __name__ == "__main__":
    unittest.main()
