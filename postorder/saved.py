"""A node as bytes, and a node from bytes."""

from postorder.posts import Post
from postorder.posts import TEXT_BYTES
from postorder.posts import counts_of
from postorder.posts import is_padded_text
from postorder.posts import padded_text
from postorder.reader import Reader
from postorder.stamps import NODES
from postorder.stamps import NUMBER_BYTES
from postorder.stamps import STAMP_BYTES
from postorder.stamps import bytes_of_number
from postorder.stamps import bytes_of_stamp
from postorder.stamps import is_stamp
from postorder.stamps import number_of_bytes
from postorder.stamps import stamp_of_bytes
from postorder.state import Node
from postorder.state import ROOM
from postorder.state import is_other
from postorder.state import may_be_node

HEAD_ZEROS = 6
# the stamp, how long the text is, the text and 0s behind it
SAVED_POST_BYTES = 104


def bytes_of_node(node):
    row = [node.me, node.n] + [0] * HEAD_ZEROS + bytes_of_stamp(node.seen)
    for stamp in node.known:
        row.extend(bytes_of_stamp(stamp))
    row.extend(bytes_of_posts(node.mine))
    for posts in node.waits:
        row.extend(bytes_of_posts(posts))
    return row


def bytes_of_posts(posts):
    row = bytes_of_number(len(posts))
    for post in posts:
        row.extend(bytes_of_stamp(post.stamp))
        row.extend(bytes_of_number(len(post.text)))
        row.extend(padded_text(post.text))
    return row + [0] * (SAVED_POST_BYTES * (ROOM - len(posts)))


# None where the bytes aren't as they're saved.
def node_of_bytes(saved):
    reader = Reader(saved)
    me = reader.take_one()
    n = reader.take_one()
    if not may_be_node(me, n) or any(reader.take_some(HEAD_ZEROS)):
        return None
    node = Node(me, n)
    node.seen = stamp_of_bytes(reader.take_some(STAMP_BYTES))
    node.known = [stamp_of_bytes(reader.take_some(STAMP_BYTES)) for j in range(NODES)]
    node.mine = read_posts(reader, n)
    node.waits = [read_posts(reader, n) for j in range(NODES)]
    if node.mine is None or any([posts is None for posts in node.waits]):
        return None
    if is_known_so(node) and is_mine_so(node) and is_waiting_so(node):
        return node
    return None


# None where they aren't up to 32 posts with 0s behind them.
def read_posts(reader, n):
    how_many = number_of_bytes(reader.take_some(NUMBER_BYTES))
    room = Reader(reader.take_some(SAVED_POST_BYTES * ROOM))
    if how_many > ROOM:
        return None
    posts = [read_post(room, n) for k in range(how_many)]
    if any([post is None for post in posts]):
        return None
    if any(room.take_some(SAVED_POST_BYTES * (ROOM - how_many))):
        return None
    return posts


# None where its stamp or its text isn't one.
def read_post(reader, n):
    stamp = stamp_of_bytes(reader.take_some(STAMP_BYTES))
    length = number_of_bytes(reader.take_some(NUMBER_BYTES))
    padded = reader.take_some(TEXT_BYTES)
    if is_stamp(stamp, n) and is_padded_text(length, padded):
        return Post(stamp, padded[:length])
    return None


def is_known_so(node):
    if not is_stamp(node.seen, node.n):
        return False
    for j, stamp in enumerate(node.known):
        if not is_stamp(stamp, node.n):
            return False
        if not is_other(node, j) and any(stamp):
            return False
    return True


def is_mine_so(node):
    last = node.seen[node.me]
    first = last - len(node.mine) + 1
    # Each that's kept is one of those that were seen of me, and the first of these has the count 1.
    if first < 1:
        return False
    return counts_of(node.mine, node.me) == list(range(first, last + 1))


def is_waiting_so(node):
    for j, posts in enumerate(node.waits):
        if not is_other(node, j) and len(posts) > 0:
            return False
        below = node.seen[j]
        for count in counts_of(posts, j):
            if count <= below or count > node.seen[j] + ROOM:
                return False
            below = count
    return True
