"""The nodes of a value, found in its one form."""

from oneformroom.heads import BYTE_STRING, SHORTEST_WIDE, SIMPLE, TEXT, head_at

FIRST_FLOATING_KIND = 8


class Node:
    def __init__(self, kind, number, content_at):
        self.kind = kind
        self.number = number
        # Where the bytes behind its head begin.
        self.content_at = content_at


def is_string_kind(kind):
    return BYTE_STRING <= kind <= TEXT


def kind_of(head):
    if head.major == SIMPLE and head.info > SHORTEST_WIDE:
        return FIRST_FLOATING_KIND + head.info - SHORTEST_WIDE - 1
    return head.major


# In the one form nothing stands behind an item's last byte, and only a string has bytes that are no heads:
# so going on from head to head meets every node in its order, however deep it lies.
def nodes_of(form):
    nodes = []
    at = 0
    while at < len(form):
        head = head_at(form, at)
        nodes.append(Node(kind_of(head), head.number, head.behind))
        at = head.behind
        if is_string_kind(head.major):
            at += head.number
    return nodes
