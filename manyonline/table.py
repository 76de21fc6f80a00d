"""The tables that both ends keep: the fixed one, and behind it the other one."""

from manyonline.fixed import fixed_headers
from manyonline.headers import weight_of_header

MOST_HELD = 4096


class Table:
    def __init__(self):
        self.fixed_ones = fixed_headers()
        self.newest_first = []
        self.weight_held = 0
        self.weight_allowed = MOST_HELD

    def header_at(self, number):
        """The header of that number, or None where there is none."""
        if 1 <= number <= len(self.fixed_ones):
            return self.fixed_ones[number - 1]
        place = number - len(self.fixed_ones) - 1
        if 0 <= place < len(self.newest_first):
            return self.newest_first[place]
        return None

    def put_header(self, header):
        self.newest_first.insert(0, header)
        self.weight_held += weight_of_header(header)
        self.drop_oldest()

    def allow_weight(self, weight):
        self.weight_allowed = weight
        self.drop_oldest()

    def drop_oldest(self):
        while self.weight_held > self.weight_allowed:
            oldest = self.newest_first.pop()
            self.weight_held -= weight_of_header(oldest)
