"""Letters: texts written as rows, and rows read back to texts."""

from crcgate.errors import NoText
from crcgate.rows import need_row

# The letters with the numbers 32 to 36 and 38 to 126, in the order of their numbers.
LETTERS = (
    " !\"#$&'()*+,-./0123456789:;<=>?"
    "@ABCDEFGHIJKLMNOPQRSTUVWXYZ[\\]^_"
    "`abcdefghijklmnopqrstuvwxyz{|}~"
)
SIGNS_FOR_EACH = 7


def signs_of(letter):
    """Give the seven signs of the letter's number, the highest power first."""
    number = ord(letter)
    return [number >> power & 1 for power in range(SIGNS_FOR_EACH - 1, -1, -1)]


def letters_by_signs():
    """Give a dict that tells, for the signs of each letter as a tuple, the letter."""
    return {tuple(signs_of(letter)): letter for letter in LETTERS}


def row_of(text):
    """Write the text as a row."""
    if not isinstance(text, str):
        raise NoText("a text is due")
    row = []
    for letter in text:
        if letter not in LETTERS:
            raise NoText("the text has something in it that is no letter")
        row.extend(signs_of(letter))
    return row


def text_of(row):
    """Read the row back to the text."""
    need_row(row)
    if len(row) % SIGNS_FOR_EACH != 0:
        raise NoText("the row's length is no multiple of seven")
    letters = letters_by_signs()
    found = []
    for start in range(0, len(row), SIGNS_FOR_EACH):
        signs = tuple(row[start:start + SIGNS_FOR_EACH])
        if signs not in letters:
            raise NoText("seven signs of the row are no letter's")
        found.append(letters[signs])
    return "".join(found)
