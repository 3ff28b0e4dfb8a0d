"""Stamps, which say a number of each of the nodes 0 to 7, and their bytes."""

NODES = 8
NUMBER_BYTES = 8
STAMP_BYTES = 64
# 2 to the power of 62
HIGHEST = 4611686018427387904


def empty_stamp():
    return [0] * NODES


def bytes_of_number(number):
    row = []
    rest = number
    for k in range(NUMBER_BYTES):
        row.append(rest % 256)
        rest = rest // 256
    return row


def number_of_bytes(row):
    number = 0
    for part in reversed(row):
        number = number * 256 + part
    return number


def bytes_of_stamp(stamp):
    row = []
    for number in stamp:
        row.extend(bytes_of_number(number))
    return row


def stamp_of_bytes(row):
    stamp = []
    for j in range(NODES):
        start = NUMBER_BYTES * j
        stamp.append(number_of_bytes(row[start:start + NUMBER_BYTES]))
    return stamp


def is_stamp(stamp, n):
    if any(stamp[n:]):
        return False
    return max(stamp) <= HIGHEST
