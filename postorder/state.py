"""What a node keeps."""

from postorder.stamps import NODES
from postorder.stamps import empty_stamp

# So many of its own posts a node keeps at most, and so far above what's seen a post may wait.
ROOM = 32


class Node:
    def __init__(self, me, n):
        self.me = me
        self.n = n
        self.seen = empty_stamp()
        self.known = [empty_stamp() for j in range(NODES)]
        self.mine = []
        self.waits = [[] for j in range(NODES)]


def may_be_node(me, n):
    return 2 <= n <= NODES and 0 <= me < n


def is_other(node, j):
    return 0 <= j < node.n and j != node.me


def others_of(node):
    return [j for j in range(node.n) if j != node.me]
