"""The program held against the model: on all short rows, and on values written in many ways and spoilt."""

import random
import struct
import unittest

from tests.helper import (ask, ask_of, canonical, find, model, model_places, model_read, nodes, places, read, same,
                          written)


def any_head(rng, major, number):
    fitting = [(info, size) for info, size in ((24, 1), (25, 2), (26, 4), (27, 8)) if number < 256 ** size]
    if number < 24 and rng.random() < 0.6:
        return bytes([32 * major + number])
    info, size = fitting[0] if rng.random() < 0.5 else rng.choice(fitting)
    return bytes([32 * major + info]) + number.to_bytes(size, "big")


def any_number(rng):
    return rng.choice((rng.randrange(4), rng.randrange(24), rng.randrange(256), rng.randrange(2 ** 16),
                       rng.randrange(2 ** 32), rng.randrange(2 ** 64), 2 ** rng.randrange(64)))


def any_value(rng, depth):
    sort = rng.choice(("whole", "whole", "bytes", "text", "simple", "float", "array", "map", "map", "tag"))
    if sort == "whole":
        return (rng.randrange(2), any_number(rng))
    if sort == "bytes":
        return (2, [bytes([rng.randrange(256)]) for _ in range(rng.choice((0, 1, 2, 5, 30)))])
    if sort == "text":
        return (3, [rng.choice("ab\u00e4\u20ac\U0001d11e").encode() for _ in range(rng.choice((0, 1, 2, 5)))])
    if sort == "simple":
        return (7, rng.choice((20, 21, 22, 23, rng.randrange(24), rng.randrange(32, 256))))
    if sort == "float":
        return ("float", rng.choice((0.0, -0.0, 1.0, 1.5, -2.0, 65504.0, 65505.0, 0.1, 1e300, 2.0 ** -24, 2.0 ** -149,
                                     5e-324, float("inf"), float("-inf"), float("nan"))))
    if depth == 0:
        return (0, rng.randrange(8))
    if sort == "tag":
        return (6, any_number(rng), any_value(rng, depth - 1))
    count = rng.choice((0, 1, 2, 3, 4))
    if sort == "array":
        return (4, [any_value(rng, depth - 1) for _ in range(count)])
    return (5, [(any_value(rng, depth - 1), any_value(rng, depth - 1)) for _ in range(count)])


def any_float(rng, value):
    ways = [b"\xfb" + struct.pack(">d", value)]
    for first, code in ((b"\xfa", ">f"), (b"\xf9", ">e")):
        try:
            short = struct.pack(code, value)
        except OverflowError:
            continue
        back, = struct.unpack(code, short)
        if back == value or value != value:
            ways.append(first + short)
    return rng.choice(ways)


def any_string(rng, major, characters):
    if rng.random() < 0.6:
        content = b"".join(characters)
        return any_head(rng, major, len(content)) + content
    data = bytes([32 * major + 31])
    at = 0
    while at < len(characters) or rng.random() < 0.2:
        behind = min(len(characters), at + rng.randrange(4))
        content = b"".join(characters[at:behind])
        data += any_head(rng, major, len(content)) + content
        at = behind
    return data + b"\xff"


def any_writing(rng, value):
    """One of the ways in which the value may be written."""
    sort = value[0]
    if sort == "float":
        return any_float(rng, value[1])
    if sort in (2, 3):
        return any_string(rng, sort, value[1])
    if sort == 7:
        return bytes([224 + value[1]]) if value[1] < 24 else bytes([248, value[1]])
    if sort in (0, 1):
        return any_head(rng, sort, value[1])
    if sort == 6:
        return any_head(rng, 6, value[1]) + any_writing(rng, value[2])
    if sort == 4:
        members = [any_writing(rng, member) for member in value[1]]
    else:
        members = [any_writing(rng, key) + any_writing(rng, one) for key, one in value[1]]
        rng.shuffle(members)
    if rng.random() < 0.4:
        return bytes([32 * sort + 31]) + b"".join(members) + b"\xff"
    return any_head(rng, sort, len(members)) + b"".join(members)


def spoilt(rng, data):
    data = bytearray(data)
    for _ in range(rng.choice((1, 1, 2))):
        at = rng.randrange(len(data) + 1)
        deed = rng.randrange(4)
        if deed == 0:
            data[at:at + 1] = bytes([rng.randrange(256)])
        elif deed == 1:
            del data[at:at + 1]
        elif deed == 2:
            data.insert(at, rng.choice((0, 0x5f, 0x7f, 0x9f, 0xbf, 0xff, rng.randrange(256))))
        else:
            del data[at:]
    return bytes(data[:400])


class AgainstModel(unittest.TestCase):
    def check(self, data, with_nodes=True):
        form, model_nodes = model(data)
        self.assertEqual(written(data), form, data.hex())
        self.assertEqual(ask(canonical(data)), [[0, 1 if form == data else 0]], data.hex())
        if model_nodes is not None:
            self.assertEqual(written(form), form, data.hex())
            if with_nodes:
                self.assertEqual(nodes(data), model_nodes, data.hex())
                self.check_places(data)
        return form

    def check_places(self, data):
        expected = model_places(model_read(data))
        self.assertEqual(places(data), [(after, part) for after, part, _ in expected], data.hex())
        # Whatever stands somewhere in the value is looked for in each map.
        parts = sorted({part for _, part, _ in expected})
        for i, (_, _, by_key) in enumerate(expected):
            if by_key is None:
                self.assertEqual(ask_of(data, [find(i, parts[0])]), [[-2]], data.hex())
                continue
            told = ask_of(data, [find(i, part) for part in parts])
            self.assertEqual(told, [[0, by_key[part]] if part in by_key else [-3] for part in parts], data.hex())

    def check_same(self, data, other):
        form, other_form = model(data)[0], model(other)[0]
        if form in (-1, -2):
            expected = -9
        elif other_form in (-1, -2):
            expected = other_form
        else:
            expected = 1 if form == other_form else 0
        told = ask(read(data), same(other))[1]
        self.assertEqual(told, [expected] if expected < 0 else [0, expected], (data.hex(), other.hex()))
        return expected

    def test_all_rows_of_one_and_two(self):
        for first in range(256):
            self.check(bytes([first]))
            for second in range(256):
                self.check(bytes([first, second]))

    def test_rows_of_three_to_six_from_telling_bytes(self):
        rng = random.Random(3)
        telling = bytes((0, 1, 0x18, 0x20, 0x38, 0x40, 0x41, 0x5f, 0x60, 0x61, 0x7f, 0x80, 0x81, 0x82, 0x9f, 0xa0, 0xa1,
                         0xa2, 0xbf, 0xc0, 0xd8, 0xf4, 0xf8, 0xf9, 0xff))
        for first in telling:
            for second in telling:
                for third in telling:
                    self.check(bytes([first, second, third]))
        for _ in range(20000):
            self.check(bytes(rng.choice(telling) for _ in range(rng.randrange(4, 9))))

    def test_two_writings_of_one_value_come_out_the_same(self):
        rng = random.Random(1)
        met = {}
        for _ in range(3000):
            value = any_value(rng, rng.randrange(1, 5))
            ways = [any_writing(rng, value) for _ in range(4)]
            ways = [way for way in ways if len(way) <= 400]
            forms = [self.check(way, with_nodes=len(way) < 60) for way in ways]
            self.assertLessEqual(len(set(forms)), 1)
            self.assertNotIn(-1, forms)
            for form in forms:
                met[form == -2] = met.get(form == -2, 0) + 1
        # Both are met often enough to tell something.
        self.assertGreater(met[True], 100)
        self.assertGreater(met[False], 1000)

    def test_spoilt_writings(self):
        rng = random.Random(2)
        met = {}
        for _ in range(12000):
            data = any_writing(rng, any_value(rng, rng.randrange(1, 4)))[:400]
            form = self.check(spoilt(rng, data), with_nodes=False)
            sort = form if form in (-1, -2) else 0
            met[sort] = met.get(sort, 0) + 1
        self.assertGreater(min(met[0], met[-1]), 1000)
        self.assertGreater(met[-2], 5)

    def test_same_of_two(self):
        rng = random.Random(4)
        met = {}
        for _ in range(3000):
            value = any_value(rng, rng.randrange(1, 4))
            data, other = any_writing(rng, value)[:400], any_writing(rng, value)[:400]
            for second in (other, spoilt(rng, other), any_writing(rng, any_value(rng, 1))[:400]):
                expected = self.check_same(data, second)
                met[expected] = met.get(expected, 0) + 1
        # All are met often enough to tell something.
        self.assertGreater(min(met[1], met[0], met[-1]), 1000, met)
        self.assertGreater(min(met[-9], met[-2]), 20, met)
