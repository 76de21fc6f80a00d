"""Unpacking: from the bytes of a whole block to its headers."""

from manyonline.headers import Header
from manyonline.rows import FIVE_BITS, FOUR_BITS, SEVEN_BITS, SIX_BITS
from manyonline.table import MOST_HELD


class WrongBlock(ValueError):
    """A block that can't be unpacked."""


class BlockReader:
    def __init__(self, block):
        self.block = block
        self.place = 0

    def at_end(self):
        return self.place >= len(self.block)

    def look_at_byte(self):
        if self.at_end():
            raise WrongBlock("the block ends too early")
        return self.block[self.place]

    def read_byte(self):
        byte = self.look_at_byte()
        self.place += 1
        return byte

    def read_number(self, ones):
        number = self.read_byte() & ones
        if number < ones:
            return number
        factor = 1
        for step in range(4):
            byte = self.read_byte()
            number += (byte & SEVEN_BITS) * factor
            if byte < 128:
                return number
            factor *= 128
        raise WrongBlock("a number is too long")

    def read_text(self):
        if self.look_at_byte() >= 128:
            raise WrongBlock("a text in a code by bits is not taken")
        length = self.read_number(SEVEN_BITS)
        end = self.place + length
        if end > len(self.block):
            raise WrongBlock("a text goes beyond the end")
        text = self.block[self.place:end]
        self.place = end
        return text


def unpack(block, table):
    """The headers of a block; the table is changed as the block says."""
    reader = BlockReader(block)
    headers = []
    while not reader.at_end():
        first = reader.look_at_byte()
        if 32 <= first <= 63:
            if len(headers) > 0:
                raise WrongBlock("the table is resized behind a header")
            resize_table(reader, table)
        else:
            headers.append(unpack_header(reader, table, first))
    return headers


def unpack_header(reader, table, first):
    if first >= 128:
        return known_header(table, reader.read_number(SEVEN_BITS))
    if first >= 64:
        header = spelled_header(reader, table, SIX_BITS)
        table.put_header(header)
        return header
    return spelled_header(reader, table, FOUR_BITS)


def known_header(table, number):
    header = table.header_at(number)
    if header is None:
        raise WrongBlock("there is no header of that number")
    return header


def spelled_header(reader, table, ones):
    number = reader.read_number(ones)
    if number == 0:
        name = reader.read_text()
    else:
        name = known_header(table, number).name
    return Header(name, reader.read_text())


def resize_table(reader, table):
    weight = reader.read_number(FIVE_BITS)
    if weight > MOST_HELD:
        raise WrongBlock("the table can't hold so much")
    table.allow_weight(weight)
