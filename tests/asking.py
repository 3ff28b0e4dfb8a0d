"""Builds calls, letters and saved nodes byte by byte from the document, apart from the program."""

from postorder.nodes import answers

HIGHEST = 2 ** 62
MOST = 2147483647
LEAST = -2147483648


def stamp(**numbers):
    """stamp(n0=3, n2=1) says 3 of node 0, 1 of node 2 and 0 of all others."""
    return [numbers.get(f"n{j}", 0) for j in range(8)]


def stamp_of(node, number):
    return [number if j == node else 0 for j in range(8)]


def eight(number):
    return list(number.to_bytes(8, "little"))


def stamp_bytes(numbers):
    return [part for number in numbers for part in eight(number)]


def text(length, start=65):
    return [start + k for k in range(length)]


def padded(row):
    return row + [0] * (32 - len(row))


def post_letter(to, author, numbers, words=()):
    words = list(words)
    return [to, 1, author, len(words)] + stamp_bytes(numbers) + padded(words)


def seen_letter(to, sender, numbers):
    return [to, 2, sender, 0] + stamp_bytes(numbers)


def row_of(posts):
    row = eight(len(posts))
    for numbers, words in posts:
        row += stamp_bytes(numbers) + eight(len(words)) + padded(list(words))
    return row + [0] * (8 + 32 * 104 - len(row))


def saved(me, n, seen=None, known=None, mine=(), waits=None):
    """known and waits are dicts from node to stamp and from node to a list of (stamp, text)."""
    known = known or {}
    waits = waits or {}
    row = [me, n] + [0] * 6 + stamp_bytes(seen or [0] * 8)
    for j in range(8):
        row += stamp_bytes(known.get(j, [0] * 8))
    row += row_of(mine)
    for j in range(8):
        row += row_of(waits.get(j, []))
    assert len(row) == 30608
    return row


# Where things lie among the saved bytes.
SEEN_AT = 8
KNOWN_AT = 72
ROWS_AT = 584
ROW_LENGTH = 8 + 32 * 104


def begin(place, me, n):
    return [0, place, me, n]


def save(place):
    return [1, place]


def load(place, row):
    return [2, place, len(row)] + row


def post(place, words, most=MOST):
    return [3, place, most, len(words)] + list(words)


def receive(place, letter, most=MOST):
    return [4, place, most, len(letter)] + list(letter)


def show(place):
    return [5, place]


def again(place, to, most=MOST):
    return [6, place, to, most]


def tell(place, to, most=MOST):
    return [7, place, to, most]


def look(place):
    return [8, place]


def ask(*calls):
    """The answers of the calls, a list each, without how many numbers they have."""
    joined = [number for call in calls for number in call]
    assert 1 <= len(calls) <= 400 and len(joined) <= 31700
    given = answers(joined)
    assert isinstance(given, list) and all(type(number) is int for number in given)
    assert len(given) < 1000000 + len(calls)
    parts = []
    place = 0
    while place < len(given):
        length = given[place]
        part = given[place + 1:place + 1 + length]
        assert len(part) == length
        parts.append(part)
        place += 1 + length
    assert len(parts) == len(calls)
    return parts


def ask_last(*calls):
    return ask(*calls)[-1]


def sent(*letters):
    """What is answered where these letters are sent."""
    joined = [part for letter in letters for part in letter]
    return [len(joined)] + joined


def shown(author, words):
    """What is answered where this text of the author is shown."""
    words = list(words)
    return [len(words), author] + words
