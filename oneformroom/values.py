"""The calls on one object, answered one behind another."""

from oneformroom.nodes import is_string_kind, nodes_of
from oneformroom.reading import one_form
from oneformroom.refusals import KeyTwice, NoNode, NotString, NotWellFormed, NoValue

READ = 1
WRITE = 2
COUNT = 3
KIND = 4
NUMBER = 5
# By the number of the call: read, write, count, kind, number, copy.
TAKES = {1: ("row",), 2: (), 3: (), 4: ("node",), 5: ("node",), 6: ("node",)}


# The numbers that are handed in, and how far they have been taken; they are only read.
class Line:
    def __init__(self, calls):
        self.calls = calls
        self.at = 0

    def has_more(self):
        return self.at < len(self.calls)

    def take_number(self):
        number = self.calls[self.at]
        self.at += 1
        return number

    def take_row(self):
        length = self.take_number()
        row = self.calls[self.at:self.at + length]
        self.at += length
        return row


# The one form stands for the value: it means that value alone. None: there's no value.
class Room:
    def __init__(self):
        self.form = None
        self.nodes = []

    def hold(self, form):
        self.form = form
        self.nodes = nodes_of(form)

    def node_at(self, i):
        if i >= len(self.nodes):
            raise NoNode()
        return self.nodes[i]

    def content_of(self, node):
        if not is_string_kind(node.kind):
            raise NotString()
        return self.form[node.content_at:node.content_at + node.number]


def told_row(row):
    return [len(row)] + row


def answer_about_node(room, call, node):
    if call == KIND:
        return [node.kind]
    if call == NUMBER:
        return [node.number]
    return told_row(room.content_of(node))


def answer(room, call, i, row):
    if call == READ:
        room.hold(one_form(row))
        return []
    if room.form is None:
        raise NoValue()
    if call == WRITE:
        return told_row(room.form)
    if call == COUNT:
        return [len(room.nodes)]
    return answer_about_node(room, call, room.node_at(i))


def answer_or_refusal(room, call, i, row):
    try:
        return [0] + answer(room, call, i, row)
    except NoValue:
        return [-9]
    except NotWellFormed:
        return [-1]
    except KeyTwice:
        return [-2]
    except NoNode:
        return [-1]
    except NotString:
        return [-2]


def answers(calls):
    line = Line(calls)
    room = Room()
    told = []
    while line.has_more():
        call = line.take_number()
        # All that belongs to a call is taken ahead of the answer, for a refused one is followed by others too.
        i = line.take_number() if "node" in TAKES[call] else None
        row = line.take_row() if "row" in TAKES[call] else None
        numbers = answer_or_refusal(room, call, i, row)
        told.append(len(numbers))
        told.extend(numbers)
    return told
