"""What the tests share: calls put together and answers taken apart, and a second reader and writer.

The model reads into Python's own values and floats, and walks trees where the program goes along bytes,
so that the two don't err alike.
"""

import struct

from oneformroom.values import answers

READ, WRITE, COUNT, KIND, NUMBER, COPY, AFTER, PART, FIND, SAME, CANONICAL = range(1, 12)
MOST_CALLS = 16


def read(data):
    return [READ, len(data), *data]


def find(i, data):
    return [FIND, i, len(data), *data]


def same(data):
    return [SAME, len(data), *data]


def canonical(data):
    return [CANONICAL, len(data), *data]


def apart(told):
    """The list that answers gives back, as one list for each call."""
    result = []
    at = 0
    while at < len(told):
        result.append(told[at + 1:at + 1 + told[at]])
        at += 1 + told[at]
    return result


def ask(*calls):
    handed_in = [number for call in calls for number in call]
    before = list(handed_in)
    told = answers(handed_in)
    if handed_in != before:
        raise AssertionError("the list that was handed in was changed")
    if type(told) is not list or any(type(number) is not int for number in told):
        raise AssertionError("not a list of whole numbers: %r" % (told,))
    result = apart(told)
    if len(result) != len(calls):
        raise AssertionError("%d calls, %d answers: %r" % (len(calls), len(result), told))
    return result


def row(data):
    return [0, len(data), *data]


def ask_of(data, questions):
    """The answers to any number of questions about one value, asked in as many lines as are needed."""
    told = []
    step = MOST_CALLS - 1
    for at in range(0, len(questions), step):
        first, *others = ask(read(data), *questions[at:at + step])
        assert first == [0], first
        told += others
    return told


def written(data):
    """The one form as bytes, or the refusal's number."""
    first, second = ask(read(data), [WRITE])
    if first != [0]:
        assert second == [-9], second
        return first[0] if len(first) == 1 else first
    assert second[:2] == [0, len(second) - 2], second
    return bytes(second[2:])


def nodes(data):
    """All that is told of a value's nodes: (kind, number, content or None) each."""
    count = ask(read(data), [COUNT])[1][1]
    told = []
    for i in range(count):
        refused, kind, number, copy = ask(read(data), [KIND, i], [NUMBER, i], [COPY, i])
        assert refused == [0] and kind[0] == 0 and len(kind) == 2 and number[0] == 0 and len(number) == 2
        if copy == [-2]:
            content = None
        else:
            assert copy[:2] == [0, len(copy) - 2], copy
            content = bytes(copy[2:])
        told.append((kind[1], number[1], content))
    return told


def places(data):
    """Where a value's nodes end: (after, part) each."""
    count = ask(read(data), [COUNT])[1][1]
    afters = ask_of(data, [[AFTER, i] for i in range(count)])
    parts = ask_of(data, [[PART, i] for i in range(count)])
    assert all(after[0] == 0 and len(after) == 2 for after in afters), afters
    assert all(part[:2] == [0, len(part) - 2] for part in parts), parts
    return [(after[1], bytes(part[2:])) for after, part in zip(afters, parts)]


# The model.

class Bad(Exception):
    """Not one well formed item."""


class Twice(Exception):
    """A key twice."""


def model_head(data, at):
    if at >= len(data):
        raise Bad
    major, info = data[at] >> 5, data[at] & 31
    if info < 24:
        return major, info, info, at + 1
    if info == 31:
        return major, info, None, at + 1
    if info > 27:
        raise Bad
    size = 2 ** (info - 24)
    if at + 1 + size > len(data):
        raise Bad
    return major, info, int.from_bytes(data[at + 1:at + 1 + size], "big"), at + 1 + size


def model_string(data, at, major, length):
    if at + length > len(data):
        raise Bad
    content = data[at:at + length]
    if major == 3:
        try:
            content.decode("utf-8")
        except UnicodeDecodeError:
            raise Bad from None
    return content, at + length


def model_floating(info, number):
    if info == 24:
        if number < 32:
            raise Bad
        return ("simple", number)
    code = {25: ">e", 26: ">f", 27: ">d"}[info]
    value, = struct.unpack(code, number.to_bytes(struct.calcsize(code), "big"))
    if value != value:
        return ("float", "nan")
    # Told by its double's bytes: so both zeros are different.
    return ("float", struct.pack(">d", value))


def model_item(data, at, depth):
    major, info, number, at = model_head(data, at)
    if info == 31 and major in (0, 1, 6, 7):
        raise Bad
    if major in (0, 1):
        return (("unsigned", "negative")[major], number), at
    if major in (2, 3):
        if number is not None:
            content, at = model_string(data, at, major, number)
            return (("bytes", "text")[major - 2], content), at
        content = b""
        while data[at:at + 1] != b"\xff":
            part_major, _, length, at = model_head(data, at)
            if part_major != major or length is None:
                raise Bad
            part, at = model_string(data, at, major, length)
            content += part
        return (("bytes", "text")[major - 2], content), at + 1
    if major == 7:
        return (("simple", info) if info < 24 else model_floating(info, number)), at
    if depth >= 16:
        raise Bad
    if major == 6:
        inner, at = model_item(data, at, depth + 1)
        return ("tag", number, inner), at
    members = []
    wanted = None if number is None else number * (major - 3)
    while wanted is None or len(members) < wanted:
        if wanted is None and data[at:at + 1] == b"\xff":
            at += 1
            break
        member, at = model_item(data, at, depth + 1)
        members.append(member)
    if major == 4:
        return ("array", members), at
    if len(members) % 2:
        raise Bad
    return ("map", list(zip(members[::2], members[1::2]))), at


def model_write_head(major, number):
    for limit, info, size in ((1 << 8, 24, 1), (1 << 16, 25, 2), (1 << 32, 26, 4), (1 << 64, 27, 8)):
        if number < 24:
            return bytes([major << 5 | number])
        if number < limit:
            return bytes([major << 5 | info]) + number.to_bytes(size, "big")
    raise ValueError(number)


def model_write_floating(double):
    if double == "nan":
        return b"\xf9\x7e\x00"
    value, = struct.unpack(">d", double)
    for first, code in ((0xf9, ">e"), (0xfa, ">f")):
        try:
            short = struct.pack(code, value)
        except OverflowError:
            continue
        if struct.pack(">d", struct.unpack(code, short)[0]) == double:
            return bytes([first]) + short
    return b"\xfb" + double


def model_write(item):
    """The one form, and the nodes in it as nodes() tells them."""
    sort = item[0]
    if sort in ("unsigned", "negative"):
        major = ("unsigned", "negative").index(sort)
        return model_write_head(major, item[1]), [(major, item[1], None)]
    if sort in ("bytes", "text"):
        major = ("bytes", "text").index(sort) + 2
        return model_write_head(major, len(item[1])) + item[1], [(major, len(item[1]), item[1])]
    if sort == "simple":
        return model_write_head(7, item[1]), [(7, item[1], None)]
    if sort == "float":
        form = model_write_floating(item[1])
        return form, [(form[0] - 0xf9 + 8, int.from_bytes(form[1:], "big"), None)]
    if sort == "tag":
        inner, below = model_write(item[2])
        return model_write_head(6, item[1]) + inner, [(6, item[1], None)] + below
    if sort == "array":
        forms = [model_write(member) for member in item[1]]
        major = 4
    else:
        by_key = {}
        for key, value in item[1]:
            key_form, key_nodes = model_write(key)
            value_form, value_nodes = model_write(value)
            if key_form in by_key:
                raise Twice
            by_key[key_form] = (key_form + value_form, key_nodes + value_nodes)
        forms = [by_key[key_form] for key_form in sorted(by_key)]
        major = 5
    number = len(item[1])
    form = model_write_head(major, number) + b"".join(form for form, _ in forms)
    return form, [(major, number, None)] + [node for _, below in forms for node in below]


def model_below(item):
    """The items straight below one, in the order of the one form."""
    if item[0] == "tag":
        return [item[2]]
    if item[0] == "array":
        return item[1]
    if item[0] == "map":
        in_order = sorted(item[1], key=lambda pair: model_write(pair[0])[0])
        return [member for pair in in_order for member in pair]
    return []


def model_places(item, first=0):
    """For each node, the item's own being first: (after, part, the values' nodes by key or None)."""
    below = []
    by_key = {} if item[0] == "map" else None
    members = model_below(item)
    at = first + 1
    for k, member in enumerate(members):
        if by_key is not None and k % 2 == 1:
            by_key[model_write(members[k - 1])[0]] = at
        of_member = model_places(member, at)
        below += of_member
        at += len(of_member)
    return [(at, model_write(item)[0], by_key)] + below


def model_read(data):
    item, at = model_item(data, 0, 0)
    if at != len(data):
        raise Bad
    return item


def model(data):
    """The one form and the nodes, or the refusal's number and None."""
    try:
        return model_write(model_read(bytes(data)))
    except Bad:
        return -1, None
    except Twice:
        return -2, None
