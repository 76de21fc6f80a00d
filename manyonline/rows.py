"""Rows of bytes: texts and numbers as lists of whole numbers from 0 to 255."""

LOWER_31_BITS = 2147483647

# All ones of so many lower bits: where a number is packed in them, they say that more of it follows.
SEVEN_BITS = 127
SIX_BITS = 63
FIVE_BITS = 31
FOUR_BITS = 15


def bytes_of_text(text):
    return [ord(sign) for sign in text]


def bytes_of_number(number, count):
    row = []
    for step in range(count):
        row.insert(0, number % 256)
        number = number // 256
    return row


def number_of_bytes(row):
    number = 0
    for byte in row:
        number = number * 256 + byte
    return number


def number_without_top_bit(row):
    """The number of four bytes whose uppermost bit is left aside."""
    return number_of_bytes(row) & LOWER_31_BITS
