"""What the tests share: rows, wrong rows, and reckoning over whole numbers.

Rows are held against whole numbers here: the row's sign at the power p is the
number's bit at p. So the tests reckon in another way than the program does.
"""

import random

from crcgate.errors import GateError


def number_of(row):
    """The whole number whose bits are the signs of the row."""
    number = 0
    for sign in row:
        number = 2 * number + sign
    return number


def row_of(number, length):
    """The row of so many signs whose signs are the bits of the number."""
    return [number >> (length - 1 - k) & 1 for k in range(length)]


def product_of(one, other):
    """The product of two whole numbers, their bits added without a carry."""
    product = 0
    for power in range(one.bit_length()):
        if one >> power & 1:
            product ^= other << power
    return product


def rest_of(number, divisor):
    """The rest of a whole number by another, their bits added without a carry."""
    while number.bit_length() >= divisor.bit_length():
        number ^= divisor << (number.bit_length() - divisor.bit_length())
    return number


def reach_by_words(divisor):
    """The reach, found step by step as point 5 words it."""
    by = number_of(divisor)
    n = 1
    while rest_of(2 ** n + 1, by) != 0:
        n += 1
    return n


def rest_of_yes_at(power, divisor):
    """The rest of the number with one yes, at this power, also a great one."""
    rest = rest_of(1, divisor)
    for bit in bin(power)[2:]:
        rest = rest_of(product_of(rest, rest) << int(bit), divisor)
    return rest


def rest_by_words(row, divisor):
    """The rest of a row by a divisor, a row too."""
    return row_of(rest_of(number_of(row), number_of(divisor)), len(divisor) - 1)


def with_turned(row, places):
    """The row with the signs at these places turned."""
    return [1 - sign if place in places else sign for place, sign in enumerate(row)]


def some_row(seed, length):
    """A row that looks like chance, the same on each run."""
    chance = random.Random(seed)
    return [chance.getrandbits(1) for _ in range(length)]


def all_rows(length):
    """All rows of so many signs."""
    return [row_of(number, length) for number in range(2 ** length)]


def gate_divisors(length):
    """All gate's divisors of so many signs."""
    return [row for row in all_rows(length) if row[0] == 1 and row[-1] == 1]


def wrong_rows():
    """Values that are no rows, made anew."""
    wrong = [
        (), (1, 0, 1), "", "101", b"", b"\x01\x00", None, 0, 1, 5, True, False,
        {}, {1: 0}, set(), {0, 1}, range(2), iter([1, 0]), object(),
    ]
    for member in (True, False, 2, -1, 3, 10 ** 30, "1", "", b"\x01", None, [1], [], (1,)):
        for row in ([1], [0, 1], [1, 0, 1, 1], [1] + [0] * 30 + [1]):
            for place in range(len(row) + 1):
                wrong.append(row[:place] + [member] + row[place:])
    return wrong


def divisors_to(length):
    """All gate's divisors of 2 to so many signs."""
    return [divisor for many in range(2, length + 1) for divisor in gate_divisors(many)]


def long_divisors():
    """Some gate's divisors of 9 to 13 signs, with small and great reaches."""
    found = [
        [1, 0, 0, 0, 0, 0, 0, 1, 0, 0, 1], [1, 0, 0, 0, 0, 0, 1, 0, 1, 0, 0, 1, 1],
    ]
    for length in range(9, 14):
        found.append([1] + [0] * (length - 2) + [1])
        found.append([1] * length)
        for seed in range(2):
            found.append([1] + some_row(50 * length + seed, length - 2) + [1])
    return found


def refused(case, kind, function, *handed):
    """Demand a refusal of just this kind."""
    with case.assertRaises(kind) as caught:
        function(*handed)
    case.assertIs(type(caught.exception), kind)
    case.assertIsInstance(caught.exception, GateError)
    case.assertIsInstance(caught.exception, ValueError)


def check_signs(case, row):
    """Demand a list of the whole numbers 0 and 1, none of them a truth."""
    case.assertIs(type(row), list)
    for sign in row:
        case.assertIs(type(sign), int)
        case.assertIn(sign, (0, 1))
