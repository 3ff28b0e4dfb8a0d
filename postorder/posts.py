"""Posts: a text and a stamp."""

LONGEST_TEXT = 31
TEXT_BYTES = 32


class Post:
    def __init__(self, stamp, text):
        self.stamp = stamp
        self.text = text


def padded_text(text):
    return text + [0] * (TEXT_BYTES - len(text))


def is_padded_text(length, row):
    return length <= LONGEST_TEXT and not any(row[length:])


def counts_of(posts, author):
    return [post.stamp[author] for post in posts]
