"""What the calls take from a line: bytes that are to be sent, and what is told."""

from manyonline.events import DATA, nothing_told, numbers_of_event, weight_of_event

MOST_AT_ONCE = 65536
NONE_THERE = -1
TOO_LONG = -2


def room_for(most):
    return most if 1 <= most <= MOST_AT_ONCE else 0


def take_bytes(line, most):
    count = min(room_for(most), len(line.unsent))
    taken = line.unsent[:count]
    line.unsent = line.unsent[count:]
    return [count] + taken


def next_event(line):
    line.told_now = nothing_told()
    if len(line.untold) > 0:
        line.told_now = line.untold.pop(0)
        line.untold_weight -= weight_of_event(line.told_now)
    return numbers_of_event(line.told_now)


def header_told(line, k, most):
    headers = line.told_now.headers
    if k < 0 or k >= len(headers):
        return [NONE_THERE]
    name = headers[k].name
    value = headers[k].value
    length = len(name) + len(value)
    if length > room_for(most):
        return [TOO_LONG]
    return [length, len(name)] + name + value


def data_told(line, most):
    body = line.told_now.body
    if line.told_now.kind != DATA:
        return [NONE_THERE]
    if len(body) > room_for(most):
        return [TOO_LONG]
    return [len(body)] + body
