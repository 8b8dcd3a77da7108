"""After and part: where a node ends, and the one form that stands there."""

import unittest

from oneformroom.values import answers
from tests.helper import AFTER, COUNT, PART, ask, canonical, places, read, row, written

GREATEST = 4294967295
SINGLE = b"\xfa\x47\xc3\x50\x00"
DOUBLE = b"\xfb\x3f\xf1" + b"\x99" * 5 + b"\x9a"


class AsTheyStand(unittest.TestCase):
    def test_lists(self):
        self.assertEqual(answers([1, 1, 0, 7, 0]), [1, 0, 2, 0, 1])
        self.assertEqual(answers([1, 1, 0, 8, 0]), [1, 0, 3, 0, 1, 0])
        self.assertEqual(answers([1, 5, 159, 24, 1, 2, 255, 7, 0, 8, 0, 7, 1, 8, 1, 7, 2, 8, 2]),
                         [1, 0, 2, 0, 3, 5, 0, 3, 130, 1, 2, 2, 0, 2, 3, 0, 1, 1, 2, 0, 3, 3, 0, 1, 2])

    def test_no_value(self):
        for i in (0, 1, GREATEST):
            self.assertEqual(answers([7, i]), [1, -9])
            self.assertEqual(answers([8, i]), [1, -9])
        self.assertEqual(ask(read(b"\x01\x01"), [AFTER, 0], [PART, 5]), [[-1], [-9], [-9]])
        self.assertEqual(ask(canonical(b"\x01"), [AFTER, 0], [PART, 0]), [[0, 1], [-9], [-9]])

    def test_at_and_past_the_count(self):
        for data, count in ((b"\x00", 1), (b"\x80", 1), (b"\xa0", 1), (b"\x5f\x41a\x41b\xff", 1), (b"\x82\x01\x02", 3),
                            (b"\xa1\x01\x02", 3), (b"\xc1\x02", 2), (b"\x9f" + bytes(398) + b"\xff", 399)):
            for call in (AFTER, PART):
                told = ask(read(data), [call, count - 1], [call, count], [call, count + 1], [call, GREATEST], [COUNT])
                self.assertEqual(told[1][0], 0)
                self.assertEqual(told[2:], [[-1], [-1], [-1], [0, count]])

    def test_of_a_new_value(self):
        told = ask(read(b"\x82\x01\x02"), [AFTER, 0], [PART, 0], read(b"\x81\x41a"), [AFTER, 0], [PART, 0], [AFTER, 2])
        self.assertEqual(told, [[0], [0, 3], row(b"\x82\x01\x02"), [0], [0, 2], row(b"\x81\x41a"), [-1]])


class Places(unittest.TestCase):
    def check(self, data, expected):
        self.assertEqual(places(data), expected, data.hex())
        # The parts are one forms themselves.
        for _, part in expected:
            self.assertEqual(written(part), part)

    def test_lone_nodes(self):
        for data in (b"\x00", b"\x18\x18", b"\x1b" + b"\xff" * 8, b"\x20", b"\x40", b"\x42ab", b"\x60", b"\x62ab", b"\x80",
                     b"\xa0", b"\xf4", b"\xf8\xff", b"\xf9\x3c\x00", SINGLE, DOUBLE):
            self.check(data, [(1, data)])

    def test_node_0_is_the_whole_one_form(self):
        for data in (b"\x19\x00\x05", b"\x5f\x41a\x41b\xff", b"\x9f\xff", b"\xbf\x02\x00\x01\x00\xff", b"\xd8\x01\xf4",
                     b"\xfb\x3f\xf0" + bytes(6), b"\x9f" + bytes(398) + b"\xff"):
            told = ask(read(data), [COUNT], [AFTER, 0], [PART, 0])
            self.assertEqual(told[2], told[1])
            self.assertEqual(told[3], row(written(data)))

    def test_the_last_node(self):
        for data, last in ((b"\x82\x01\x18\x63", b"\x18\x63"), (b"\xa1\x01\x61z", b"\x61z"), (b"\xc1\xc2\xf4", b"\xf4"),
                           (b"\x81\x81\x80", b"\x80"), (b"\xa1\x00\xa1\x00\xa0", b"\xa0"), (b"\x81" + DOUBLE, DOUBLE)):
            count = ask(read(data), [COUNT])[1][1]
            self.assertEqual(ask(read(data), [AFTER, count - 1], [PART, count - 1])[1:], [[0, count], row(last)])

    def test_arrays(self):
        self.check(b"\x83\x01\x82\x02\x03\x04", [
            (6, b"\x83\x01\x82\x02\x03\x04"), (2, b"\x01"), (5, b"\x82\x02\x03"), (4, b"\x02"), (5, b"\x03"), (6, b"\x04")])
        self.check(b"\x82\x81\x81\x01\x02", [
            (5, b"\x82\x81\x81\x01\x02"), (4, b"\x81\x81\x01"), (4, b"\x81\x01"), (4, b"\x01"), (5, b"\x02")])
        self.check(b"\x82\x01\x81\x81\x02", [
            (5, b"\x82\x01\x81\x81\x02"), (2, b"\x01"), (5, b"\x81\x81\x02"), (5, b"\x81\x02"), (5, b"\x02")])

    def test_empty_arrays_and_maps(self):
        self.check(b"\x84\x80\xa0\x9f\xff\xbf\xff", [
            (5, b"\x84\x80\xa0\x80\xa0"), (2, b"\x80"), (3, b"\xa0"), (4, b"\x80"), (5, b"\xa0")])
        self.check(b"\xa2\x80\xa0\xa0\x80", [
            (5, b"\xa2\x80\xa0\xa0\x80"), (2, b"\x80"), (3, b"\xa0"), (4, b"\xa0"), (5, b"\x80")])
        self.check(b"\x82\xc1\x80\xc1\xa0", [
            (5, b"\x82\xc1\x80\xc1\xa0"), (3, b"\xc1\x80"), (3, b"\x80"), (5, b"\xc1\xa0"), (5, b"\xa0")])

    def test_maps(self):
        # A key is one and a pair's value is one: each ends ahead of the other.
        self.check(b"\xa2\x02\x82\x07\x08\x01\x61a", [
            (7, b"\xa2\x01\x61a\x02\x82\x07\x08"), (2, b"\x01"), (3, b"\x61a"), (4, b"\x02"), (7, b"\x82\x07\x08"),
            (6, b"\x07"), (7, b"\x08")])
        self.check(b"\xa2\x81\x05\x06\x82\x07\x08\xa1\x00\x01", [
            (10, b"\xa2\x81\x05\x06\x82\x07\x08\xa1\x00\x01"), (3, b"\x81\x05"), (3, b"\x05"), (4, b"\x06"),
            (7, b"\x82\x07\x08"), (6, b"\x07"), (7, b"\x08"), (10, b"\xa1\x00\x01"), (9, b"\x00"), (10, b"\x01")])

    def test_behind_a_map(self):
        self.check(b"\x83\x01\xa1\x02\xa1\x03\x04\x05", [
            (8, b"\x83\x01\xa1\x02\xa1\x03\x04\x05"), (2, b"\x01"), (7, b"\xa1\x02\xa1\x03\x04"), (4, b"\x02"),
            (7, b"\xa1\x03\x04"), (6, b"\x03"), (7, b"\x04"), (8, b"\x05")])

    def test_tags(self):
        self.check(b"\xc1\xd8\x20\x61a", [(3, b"\xc1\xd8\x20\x61a"), (3, b"\xd8\x20\x61a"), (3, b"\x61a")])
        self.check(b"\x83\xc1\x82\x01\x02\xc0\x03\x04", [
            (8, b"\x83\xc1\x82\x01\x02\xc0\x03\x04"), (5, b"\xc1\x82\x01\x02"), (5, b"\x82\x01\x02"), (4, b"\x01"),
            (5, b"\x02"), (7, b"\xc0\x03"), (7, b"\x03"), (8, b"\x04")])
        # A tag's number is not how many items it has: 0, 1, 2 and the greatest have one each.
        for head in (b"\xc0", b"\xc1", b"\xc2", b"\xdb" + b"\xff" * 8):
            self.check(b"\x82" + head + b"\x05\x06", [
                (4, b"\x82" + head + b"\x05\x06"), (3, head + b"\x05"), (3, b"\x05"), (4, b"\x06")])

    def test_numbers_and_simple_values_have_nothing_below_them(self):
        for lone in (b"\x05", b"\x25", b"\xe5", b"\xf8\x20", b"\xf9\x00\x05", SINGLE, DOUBLE, b"\x45abcde", b"\x65abcde"):
            self.check(b"\x83" + lone + b"\x80\x01", [
                (4, b"\x83" + lone + b"\x80\x01"), (2, lone), (3, b"\x80"), (4, b"\x01")])

    def test_strings_whose_bytes_look_like_heads(self):
        self.check(b"\x83\x43\x81\x9f\xff\x5f\x41\x5f\x41\xff\xff\x62\x7f\x60", [
            (4, b"\x83\x43\x81\x9f\xff\x42\x5f\xff\x62\x7f\x60"), (2, b"\x43\x81\x9f\xff"), (3, b"\x42\x5f\xff"),
            (4, b"\x62\x7f\x60")])

    def test_as_in_the_one_form_not_as_read(self):
        data = b"\xbf\x7f\x61b\xff\x9f\x18\x01\xff\x78\x01a\xfb\x3f\xf0" + bytes(6) + b"\xff"
        self.check(data, [
            (6, b"\xa2\x61a\xf9\x3c\x00\x61b\x81\x01"), (2, b"\x61a"), (3, b"\xf9\x3c\x00"), (4, b"\x61b"),
            (6, b"\x81\x01"), (6, b"\x01")])

    def test_16_deep(self):
        for wrap in (b"\x81", b"\xc1"):
            data = wrap * 16 + b"\x61a"
            self.check(data, [(17, data[i:]) for i in range(17)])
            self.check(wrap * 15 + b"\x80", [(16, (wrap * 15 + b"\x80")[i:]) for i in range(16)])
        # One more item behind each array: it is what comes after the deeper one.
        data = b"\x82" * 16 + b"\x00" + bytes(range(1, 17))
        expected = [(33 - i, data[i:33 - i]) for i in range(16)] + [(17 + k, data[16 + k:17 + k]) for k in range(17)]
        self.check(data, expected)
        # Each map the value in another, and each the key in another.
        data = b"\xa1\x05" * 16 + b"\x06"
        expected = []
        for i in range(16):
            expected += [(33, data[2 * i:]), (2 * i + 2, b"\x05")]
        self.check(data, expected + [(33, b"\x06")])
        data = b"\xa1" * 16 + b"\x05" + b"\x06" * 16
        expected = [(33 - i, data[i:33 - i]) for i in range(16)] + [(17 + k, data[16 + k:17 + k]) for k in range(17)]
        self.check(data, expected)

    def test_many_nodes(self):
        data = b"\x9f" + b"\x80" * 398 + b"\xff"
        form = b"\x99\x01\x8e" + b"\x80" * 398
        self.check(data, [(399, form)] + [(i + 1, b"\x80") for i in range(1, 399)])
        keys = b"".join(b"\x18" + bytes([key]) + b"\x07" for key in range(24, 150))
        expected = [(253, b"\xb8\x7e" + keys)]
        for i in range(126):
            expected += [(2 * i + 2, bytes([24, 24 + i])), (2 * i + 3, b"\x07")]
        self.check(b"\xb8\x7e" + keys, expected)

    def test_long_strings(self):
        for length in (23, 24, 255, 256, 388):
            content = bytes(k % 128 for k in range(length))
            for first in (b"\x5b", b"\x7b"):
                text = first + length.to_bytes(8, "big") + content
                form = written(text)
                self.check(b"\x83" + text + b"\x00\x01", [
                    (4, b"\x83" + form + b"\x00\x01"), (2, form), (3, b"\x00"), (4, b"\x01")])
