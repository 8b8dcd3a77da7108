"""The nodes of a value, found in its one form."""

from oneformroom.heads import ARRAY, BYTE_STRING, MAP, SHORTEST_WIDE, SIMPLE, TAG, TEXT, head_at

FIRST_FLOATING_KIND = 8


class Node:
    def __init__(self, head, begins_at):
        self.kind = kind_of(head)
        self.number = head.number
        self.begins_at = begins_at
        # Where the bytes behind its head begin.
        self.content_at = head.behind
        # The number of the first node that's neither this one nor below it; known when all nodes are.
        self.after = None


def is_string_kind(kind):
    return BYTE_STRING <= kind <= TEXT


def kind_of(head):
    if head.major == SIMPLE and head.info > SHORTEST_WIDE:
        return FIRST_FLOATING_KIND + head.info - SHORTEST_WIDE - 1
    return head.major


# How many items lie straight below it.
def member_count(node):
    if node.kind == ARRAY:
        return node.number
    if node.kind == MAP:
        return 2 * node.number
    if node.kind == TAG:
        return 1
    return 0


def nodes_of(form):
    nodes = found_nodes(form)
    mark_afters(nodes)
    return nodes


# In the one form nothing stands behind an item's last byte, and only a string has bytes that are no heads:
# so going on from head to head meets every node in its order, however deep it lies.
def found_nodes(form):
    nodes = []
    at = 0
    while at < len(form):
        head = head_at(form, at)
        nodes.append(Node(head, at))
        at = head.behind
        if is_string_kind(head.major):
            at += head.number
    return nodes


# From the last to the first: all that lies below a node comes behind it, and so is marked by then.
def mark_afters(nodes):
    for i in range(len(nodes) - 1, -1, -1):
        node = nodes[i]
        after = i + 1
        for member in range(member_count(node)):
            after = nodes[after].after
        node.after = after
