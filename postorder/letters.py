"""The two letters, Post and Seen, and which of them are right."""

from postorder.posts import Post
from postorder.posts import is_padded_text
from postorder.posts import padded_text
from postorder.stamps import STAMP_BYTES
from postorder.stamps import bytes_of_stamp
from postorder.stamps import is_stamp
from postorder.stamps import stamp_of_bytes
from postorder.state import is_other

POST = 1
SEEN = 2
HEAD_BYTES = 4
SEEN_LETTER_BYTES = 68
POST_LETTER_BYTES = 100


def post_letter(to, author, post):
    head = [to, POST, author, len(post.text)]
    return head + bytes_of_stamp(post.stamp) + padded_text(post.text)


def seen_letter(to, sender, seen):
    return [to, SEEN, sender, 0] + bytes_of_stamp(seen)


def is_seen(letter):
    return letter[1] == SEEN


def sender_of(letter):
    return letter[2]


def stamp_in(letter):
    return stamp_of_bytes(letter[HEAD_BYTES:HEAD_BYTES + STAMP_BYTES])


def padded_text_in(letter):
    return letter[HEAD_BYTES + STAMP_BYTES:]


def post_in(letter):
    length = letter[3]
    return Post(stamp_in(letter), padded_text_in(letter)[:length])


def is_right(node, letter):
    if len(letter) == POST_LETTER_BYTES and letter[1] == POST:
        return is_from_another(node, letter) and is_right_post(node, letter)
    if len(letter) == SEEN_LETTER_BYTES and letter[1] == SEEN:
        return is_from_another(node, letter) and is_right_seen(node, letter)
    return False


def is_from_another(node, letter):
    return letter[0] == node.me and is_other(node, sender_of(letter))


def is_right_post(node, letter):
    if not is_padded_text(letter[3], padded_text_in(letter)):
        return False
    stamp = stamp_in(letter)
    return is_stamp(stamp, node.n) and stamp[sender_of(letter)] >= 1


def is_right_seen(node, letter):
    return letter[3] == 0 and is_stamp(stamp_in(letter), node.n)
