"""Heads: a first byte, 32 times the major number plus i, and the number behind it. Here i is called info."""

from oneformroom.refusals import NotWellFormed

NEGATIVE = 1
BYTE_STRING = 2
TEXT = 3
ARRAY = 4
MAP = 5
TAG = 6
SIMPLE = 7

SHORTEST_WIDE = 24
LONGEST_WIDE = 27
UP_TO_BREAK = 31
BREAK = 255


class Head:
    def __init__(self, major, info, number, behind):
        self.major = major
        self.info = info
        # None where info is 31: how long the item goes on isn't told ahead.
        self.number = number
        self.behind = behind


def width(info):
    return 1 << (info - SHORTEST_WIDE)


def head_at(data, at):
    if at >= len(data):
        raise NotWellFormed()
    major = data[at] // 32
    info = data[at] % 32
    if info < SHORTEST_WIDE:
        return Head(major, info, info, at + 1)
    if info <= LONGEST_WIDE:
        return wide_head_at(data, at, major, info)
    if info == UP_TO_BREAK and BYTE_STRING <= major <= MAP:
        return Head(major, info, None, at + 1)
    raise NotWellFormed()


def wide_head_at(data, at, major, info):
    behind = at + 1 + width(info)
    if behind > len(data):
        raise NotWellFormed()
    number = 0
    for byte in data[at + 1:behind]:
        number = number * 256 + byte
    return Head(major, info, number, behind)


def wide_head(major, info, number):
    head = [32 * major + info]
    for place in range(1, width(info) + 1):
        head.append((number >> (8 * (width(info) - place))) % 256)
    return head


def short_head(major, number):
    if number < SHORTEST_WIDE:
        return [32 * major + number]
    info = SHORTEST_WIDE
    while number >> (8 * width(info)) != 0:
        info += 1
    return wide_head(major, info, number)
