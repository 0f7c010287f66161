"""What the tests share: rows, wrong rows, and reckoning over whole numbers.

Rows are held against whole numbers here: the row's sign at the power p is the
number's bit at p. So the tests reckon in another way than the program does.
"""

import random


def number_of(row):
    """The whole number whose bits are the signs of the row."""
    number = 0
    for sign in row:
        number = 2 * number + sign
    return number


def row_of(number, length):
    """The row of so many signs whose signs are the bits of the number."""
    return [number >> (length - 1 - k) & 1 for k in range(length)]


def product_of(one, other):
    """The product of two whole numbers, their bits added without a carry."""
    product = 0
    for power in range(one.bit_length()):
        if one >> power & 1:
            product ^= other << power
    return product


def rest_of(number, divisor):
    """The rest of a whole number by another, their bits added without a carry."""
    while number.bit_length() >= divisor.bit_length():
        number ^= divisor << (number.bit_length() - divisor.bit_length())
    return number


def some_row(seed, length):
    """A row that looks like chance, the same on each run."""
    chance = random.Random(seed)
    return [chance.getrandbits(1) for _ in range(length)]


def all_rows(length):
    """All rows of so many signs."""
    return [row_of(number, length) for number in range(2 ** length)]


def gate_divisors(length):
    """All gate's divisors of so many signs."""
    return [row for row in all_rows(length) if row[0] == 1 and row[-1] == 1]


def wrong_rows():
    """Values that are no rows, made anew."""
    wrong = [
        (), (1, 0, 1), "", "101", b"", b"\x01\x00", None, 0, 1, 5, True, False,
        {}, {1: 0}, set(), {0, 1}, range(2), iter([1, 0]), object(),
    ]
    for member in (True, False, 2, -1, 3, 10 ** 30, "1", "", b"\x01", None, [1], [], (1,)):
        for row in ([1], [0, 1], [1, 0, 1, 1], [1] + [0] * 30 + [1]):
            for place in range(len(row) + 1):
                wrong.append(row[:place] + [member] + row[place:])
    return wrong


def check_signs(case, row):
    """Demand a list of the whole numbers 0 and 1, none of them a truth."""
    case.assertIs(type(row), list)
    for sign in row:
        case.assertIs(type(sign), int)
        case.assertIn(sign, (0, 1))
