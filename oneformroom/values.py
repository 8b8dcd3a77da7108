"""The calls on one object, answered one behind another."""

from oneformroom.heads import MAP
from oneformroom.nodes import is_string_kind, nodes_of
from oneformroom.reading import is_one_form, one_form
from oneformroom.refusals import KeyTwice, NoNode, NoSuchKey, NotMap, NotString, NotWellFormed, NoValue

READ = 1
WRITE = 2
COUNT = 3
KIND = 4
NUMBER = 5
COPY = 6
AFTER = 7
PART = 8
SAME = 10
CANONICAL = 11
# By the number of the call: read, write, count, kind, number, copy, after, part, find, same, canonical.
TAKES = {
    1: ("row",), 2: (), 3: (), 4: ("node",), 5: ("node",), 6: ("node",), 7: ("node",), 8: ("node",),
    9: ("node", "row"), 10: ("row",), 11: ("row",),
}


# The numbers that are handed in, and how far they have been taken; they are only read.
class Line:
    def __init__(self, calls):
        self.calls = calls
        self.at = 0

    def has_more(self):
        return self.at < len(self.calls)

    def take_number(self):
        number = self.calls[self.at]
        self.at += 1
        return number

    def take_row(self):
        length = self.take_number()
        row = self.calls[self.at:self.at + length]
        self.at += length
        return row


# The one form stands for the value: it means that value alone. None: there's no value.
class Room:
    def __init__(self):
        self.form = None
        self.nodes = []

    def hold(self, form):
        self.form = form
        self.nodes = nodes_of(form)

    def node_at(self, i):
        if i >= len(self.nodes):
            raise NoNode()
        return self.nodes[i]

    def content_of(self, node):
        if not is_string_kind(node.kind):
            raise NotString()
        return self.form[node.content_at:node.content_at + node.number]

    # Nothing stands between nodes: so a part ends where the node after it begins.
    def part_of(self, node):
        if node.after == len(self.nodes):
            return self.form[node.begins_at:]
        return self.form[node.begins_at:self.nodes[node.after].begins_at]

    # Only from key to key: what lies below a key or a value is not this map's.
    def value_by_key(self, i, key_form):
        holder = self.nodes[i]
        if holder.kind != MAP:
            raise NotMap()
        at = i + 1
        while at < holder.after:
            key = self.nodes[at]
            if self.part_of(key) == key_form:
                return key.after
            at = self.nodes[key.after].after
        raise NoSuchKey()


def told_row(row):
    return [len(row)] + row


# Python's own True and False are no whole numbers here.
def told_truth(truth):
    return [1 if truth else 0]


def answer_about_node(room, call, i, row):
    node = room.node_at(i)
    if call == KIND:
        return [node.kind]
    if call == NUMBER:
        return [node.number]
    if call == COPY:
        return told_row(room.content_of(node))
    if call == AFTER:
        return [node.after]
    if call == PART:
        return told_row(room.part_of(node))
    return [room.value_by_key(i, row)]


def answer_about_value(room, call, i, row):
    if room.form is None:
        raise NoValue()
    if call == WRITE:
        return told_row(room.form)
    if call == COUNT:
        return [len(room.nodes)]
    if call == SAME:
        return told_truth(one_form(row) == room.form)
    return answer_about_node(room, call, i, row)


def answer(room, call, i, row):
    if call == READ:
        room.hold(one_form(row))
        return []
    if call == CANONICAL:
        return told_truth(is_one_form(row))
    return answer_about_value(room, call, i, row)


def answer_or_refusal(room, call, i, row):
    try:
        return [0] + answer(room, call, i, row)
    except NoValue:
        return [-9]
    except NotWellFormed:
        return [-1]
    except KeyTwice:
        return [-2]
    except NoNode:
        return [-1]
    except NotString:
        return [-2]
    except NotMap:
        return [-2]
    except NoSuchKey:
        return [-3]


def answers(calls):
    line = Line(calls)
    room = Room()
    told = []
    while line.has_more():
        call = line.take_number()
        # All that belongs to a call is taken ahead of the answer, for a refused one is followed by others too.
        i = line.take_number() if "node" in TAKES[call] else None
        row = line.take_row() if "row" in TAKES[call] else None
        numbers = answer_or_refusal(room, call, i, row)
        told.append(len(numbers))
        told.extend(numbers)
    return told
