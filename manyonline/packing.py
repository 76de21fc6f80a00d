"""Packing: from headers to the bytes of a block."""

from manyonline.rows import FOUR_BITS, SEVEN_BITS

# The uppermost bit of a byte: a header by its number alone.
KNOWN = 128


def pack(headers, fixed_ones):
    """The headers one behind another; the other table is not used."""
    block = []
    for header in headers:
        block.extend(packed_header(header, fixed_ones))
    return block


def packed_header(header, fixed_ones):
    number = number_of_header(header, fixed_ones)
    if number > 0:
        return packed_number(number, SEVEN_BITS, KNOWN)
    number = number_of_name(header.name, fixed_ones)
    row = packed_number(number, FOUR_BITS, 0)
    if number == 0:
        row.extend(packed_text(header.name))
    return row + packed_text(header.value)


def number_of_header(header, fixed_ones):
    """Its first number in the fixed table, from 1 on, or 0 where it isn't there."""
    for number, fixed in enumerate(fixed_ones, start=1):
        if fixed.name == header.name and fixed.value == header.value:
            return number
    return 0


def number_of_name(name, fixed_ones):
    """The first number of that name in the fixed table, from 1 on, or 0 where it isn't there."""
    for number, fixed in enumerate(fixed_ones, start=1):
        if fixed.name == name:
            return number
    return 0


def packed_text(text):
    return packed_number(len(text), SEVEN_BITS, 0) + text


def packed_number(number, ones, upper_bits):
    if number < ones:
        return [upper_bits + number]
    row = [upper_bits + ones]
    rest = number - ones
    while rest >= 128:
        row.append(128 + rest % 128)
        rest = rest // 128
    row.append(rest)
    return row
