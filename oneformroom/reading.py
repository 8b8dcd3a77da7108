"""From bytes in any way of writing to the one form of the value that they mean."""

from oneformroom.characters import is_utf8
from oneformroom.floating import shortest_floating
from oneformroom.heads import ARRAY, BREAK, MAP, NEGATIVE, SHORTEST_WIDE, SIMPLE, TEXT, head_at, short_head
from oneformroom.refusals import KeyTwice, NotWellFormed

MOST_DEEP = 16
MOST_NODES = 1024
MOST_STRING_BYTES = 8192
FIRST_WIDE_SIMPLE = 32


def one_form(data):
    reader = Reader(data)
    form = reader.take_item(0)
    if reader.at != len(data):
        raise NotWellFormed()
    # Only told here, since bytes that aren't well formed further on are refused as that.
    if reader.key_twice:
        raise KeyTwice()
    return form


# What is read and written anew comes out as it went in just where it was the one form.
def is_one_form(data):
    try:
        return one_form(data) == data
    except NotWellFormed:
        return False
    except KeyTwice:
        return False


# What isn't a string, an array, a map or a tag: its head says it all.
def lone_form(head):
    if head.major <= NEGATIVE or head.info < SHORTEST_WIDE:
        return short_head(head.major, head.number)
    if head.info > SHORTEST_WIDE:
        return shortest_floating(head.info, head.number)
    if head.number < FIRST_WIDE_SIMPLE:
        raise NotWellFormed()
    return short_head(SIMPLE, head.number)


def counted_form(major, forms):
    form = short_head(major, len(forms))
    for one in forms:
        form.extend(one)
    return form


def has_neighbours_alike(keys):
    for at in range(1, len(keys)):
        if keys[at - 1] == keys[at]:
            return True
    return False


# Each take_ goes on behind what it has taken, and gives back one forms. The depth is how many arrays, maps
# and tags the item lies in; it is held to MOST_DEEP, and so are the calls within one another.
class Reader:
    def __init__(self, data):
        self.data = data
        self.at = 0
        self.node_count = 0
        self.string_bytes = 0
        self.key_twice = False

    def take_head(self):
        head = head_at(self.data, self.at)
        self.at = head.behind
        return head

    def take_item(self, depth):
        self.count_node()
        head = self.take_head()
        if head.major <= NEGATIVE or head.major == SIMPLE:
            return lone_form(head)
        if head.major <= TEXT:
            return self.take_string(head)
        if depth == MOST_DEEP:
            raise NotWellFormed()
        if head.major == ARRAY:
            return self.take_array(head, depth + 1)
        if head.major == MAP:
            return self.take_map(head, depth + 1)
        return short_head(head.major, head.number) + self.take_item(depth + 1)

    def count_node(self):
        self.node_count += 1
        if self.node_count > MOST_NODES:
            raise NotWellFormed()

    # Whether another belongs to it, when so many are taken; the byte 255 is taken with the answer.
    def goes_on(self, head, taken):
        if head.number is not None:
            return taken < head.number
        if self.at < len(self.data) and self.data[self.at] == BREAK:
            self.at += 1
            return False
        return True

    def take_array(self, head, depth):
        forms = []
        while self.goes_on(head, len(forms)):
            forms.append(self.take_item(depth))
        return counted_form(head.major, forms)

    def take_map(self, head, depth):
        pairs = []
        while self.goes_on(head, len(pairs)):
            key = self.take_item(depth)
            pairs.append((key, self.take_item(depth)))
        pairs = sorted(pairs, key=lambda pair: pair[0])
        if has_neighbours_alike([pair[0] for pair in pairs]):
            self.key_twice = True
        return counted_form(head.major, [pair[0] + pair[1] for pair in pairs])

    def take_string(self, head):
        if head.number is None:
            content = self.take_parts(head)
        else:
            content = self.take_content(head)
        self.string_bytes += len(content)
        if self.string_bytes > MOST_STRING_BYTES:
            raise NotWellFormed()
        return short_head(head.major, len(content)) + content

    def take_parts(self, head):
        content = []
        while self.goes_on(head, 0):
            part = self.take_head()
            if part.major != head.major or part.number is None:
                raise NotWellFormed()
            content.extend(self.take_content(part))
        return content

    def take_content(self, head):
        behind = self.at + head.number
        if behind > len(self.data):
            raise NotWellFormed()
        content = self.data[self.at:behind]
        self.at = behind
        if head.major == TEXT and not is_utf8(content):
            raise NotWellFormed()
        return content
