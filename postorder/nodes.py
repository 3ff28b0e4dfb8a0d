"""The calls on eight objects, each of which is a node."""

from postorder.deeds import send_again
from postorder.deeds import show_next
from postorder.deeds import take_letter
from postorder.deeds import tell
from postorder.deeds import write_post
from postorder.reader import Reader
from postorder.refusals import BAD_ARGUMENTS
from postorder.refusals import BAD_BYTES
from postorder.saved import bytes_of_node
from postorder.saved import node_of_bytes
from postorder.state import Node
from postorder.state import may_be_node

OBJECTS = 8
PO_BEGIN = 0
PO_SAVE = 1
PO_LOAD = 2
PO_POST = 3
PO_RECEIVE = 4
PO_NEXT = 5
PO_AGAIN = 6
PO_TELL = 7
PO_SEEN = 8


def answers(calls):
    reader = Reader(calls)
    nodes = [None] * OBJECTS
    answered = []
    while not reader.is_done():
        answer = next_answer(nodes, reader)
        answered.append(len(answer))
        answered.extend(answer)
    return answered


def next_answer(nodes, reader):
    call = reader.take_one()
    place = reader.take_one()
    if call == PO_BEGIN:
        return begin(nodes, place, reader)
    if call == PO_SAVE:
        return [0] + bytes_of_node(nodes[place])
    if call == PO_LOAD:
        return load(nodes, place, reader)
    if call == PO_POST:
        most = reader.take_one()
        return write_post(nodes[place], most, reader.take_row())
    if call == PO_RECEIVE:
        most = reader.take_one()
        return take_letter(nodes[place], most, reader.take_row())
    if call == PO_NEXT:
        return show_next(nodes[place])
    if call == PO_AGAIN:
        to = reader.take_one()
        return send_again(nodes[place], to, reader.take_one())
    if call == PO_TELL:
        to = reader.take_one()
        return tell(nodes[place], to, reader.take_one())
    if call == PO_SEEN:
        return [0] + nodes[place].seen
    raise ValueError(f"no such call: {call}")


def begin(nodes, place, reader):
    me = reader.take_one()
    n = reader.take_one()
    if not may_be_node(me, n):
        return [BAD_ARGUMENTS]
    nodes[place] = Node(me, n)
    return [0]


def load(nodes, place, reader):
    node = node_of_bytes(reader.take_row())
    if node is None:
        return [BAD_BYTES]
    nodes[place] = node
    return [0]
