"""Headers, their weight, and which of them are plain, a request's, trailers or an answer's."""

from manyonline.rows import bytes_of_text

COLON = 58
BLANKS = (32, 9)
BARRED_NAMES = ("connection", "keep-alive", "proxy-connection", "transfer-encoding", "upgrade")
NEEDED_ONCE = (":method", ":scheme", ":path")


class Header:
    """A name and a value, each a list of bytes that nobody changes."""

    def __init__(self, name, value):
        self.name = name
        self.value = value


def weight_of_header(header):
    return len(header.name) + len(header.value) + 32


def weight_of_headers(headers):
    return sum([weight_of_header(header) for header in headers])


def is_plain_name(name):
    # Each byte is looked at once: a long name may come again and again from the table.
    different = sorted(set(name))
    return len(different) > 0 and all([is_plain_name_byte(byte) for byte in different])


def is_plain_name_byte(byte):
    return 33 <= byte <= 126 and byte != COLON and not 65 <= byte <= 90


def is_plain_value(value):
    if 0 in value or 10 in value or 13 in value:
        return False
    return len(value) == 0 or (value[0] not in BLANKS and value[-1] not in BLANKS)


def is_plain(header):
    if not is_plain_name(header.name) or not is_plain_value(header.value):
        return False
    if header.name in [bytes_of_text(name) for name in BARRED_NAMES]:
        return False
    return header.name != bytes_of_text("te") or header.value == bytes_of_text("trailers")


def are_trailers(headers):
    for header in headers:
        if not is_plain(header):
            return False
    return True


def begins_with_colon(header):
    return len(header.name) > 0 and header.name[0] == COLON


def are_request_headers(headers):
    leading = 0
    while leading < len(headers) and begins_with_colon(headers[leading]):
        leading += 1
    return are_leading_headers(headers[:leading]) and are_trailers(headers[leading:])


def are_leading_headers(headers):
    """Whether these, whose names begin with a colon, are all that a request begins with."""
    names = [header.name for header in headers]
    for text in NEEDED_ONCE:
        if names.count(bytes_of_text(text)) != 1:
            return False
    authorities = names.count(bytes_of_text(":authority"))
    if authorities > 1 or len(names) != len(NEEDED_ONCE) + authorities:
        return False
    return have_right_values(headers)


def have_right_values(headers):
    for header in headers:
        if not is_plain_value(header.value):
            return False
        if header.name == bytes_of_text(":path") and len(header.value) == 0:
            return False
    return True


def are_answer_headers(headers):
    if len(headers) == 0 or headers[0].name != bytes_of_text(":status"):
        return False
    return is_status(headers[0].value) and are_trailers(headers[1:])


def is_status(value):
    digits = bytes_of_text("0123456789")
    return len(value) == 3 and all([byte in digits for byte in value])
