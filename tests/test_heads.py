"""Heads and whole numbers; what is behind an item; bytes that end too early."""

import unittest

from tests.helper import nodes, written

WIDTHS = ((24, 1), (25, 2), (26, 4), (27, 8))
EDGES = (0, 1, 23, 24, 25, 31, 32, 255, 256, 65535, 65536, 2 ** 32 - 1, 2 ** 32, 2 ** 63, 2 ** 64 - 1)


def shortest(major, number):
    if number < 24:
        return bytes([32 * major + number])
    for info, size in WIDTHS:
        if number < 256 ** size:
            return bytes([32 * major + info]) + number.to_bytes(size, "big")


def all_heads(major, number):
    if number < 24:
        yield bytes([32 * major + number])
    for info, size in WIDTHS:
        if number < 256 ** size:
            yield bytes([32 * major + info]) + number.to_bytes(size, "big")


class WholeNumbers(unittest.TestCase):
    def test_every_head_is_written_as_the_short_one(self):
        for major in (0, 1):
            for number in EDGES:
                for head in all_heads(major, number):
                    with self.subTest(head=head.hex()):
                        self.assertEqual(written(head), shortest(major, number))
                        self.assertEqual(nodes(head), [(major, number, None)])

    def test_written_bytes_as_they_stand(self):
        self.assertEqual(written([0]), bytes([0]))
        self.assertEqual(written([23]), bytes([23]))
        self.assertEqual(written([24, 23]), bytes([23]))
        self.assertEqual(written([24, 24]), bytes([24, 24]))
        self.assertEqual(written([25, 0, 255]), bytes([24, 255]))
        self.assertEqual(written([25, 1, 0]), bytes([25, 1, 0]))
        self.assertEqual(written([26, 0, 0, 255, 255]), bytes([25, 255, 255]))
        self.assertEqual(written([26, 0, 1, 0, 0]), bytes([26, 0, 1, 0, 0]))
        self.assertEqual(written([27, 0, 0, 0, 0, 255, 255, 255, 255]), bytes([26, 255, 255, 255, 255]))
        self.assertEqual(written([27, 0, 0, 0, 1, 0, 0, 0, 0]), bytes([27, 0, 0, 0, 1, 0, 0, 0, 0]))
        self.assertEqual(written([59] + [255] * 8), bytes([59] + [255] * 8))
        self.assertEqual(written([56, 0]), bytes([32]))


class OtherHeads(unittest.TestCase):
    def test_longer_heads_of_all_the_others(self):
        for prefix in all_heads(2, 2):
            self.assertEqual(written(prefix + b"\x01\xff"), b"\x42\x01\xff")
        for prefix in all_heads(3, 2):
            self.assertEqual(written(prefix + b"ab"), b"\x62ab")
        for prefix in all_heads(4, 2):
            self.assertEqual(written(prefix + b"\x01\x02"), b"\x82\x01\x02")
        for prefix in all_heads(5, 1):
            self.assertEqual(written(prefix + b"\x01\x02"), b"\xa1\x01\x02")

    def test_tags_with_any_number(self):
        for number in EDGES:
            for head in all_heads(6, number):
                self.assertEqual(written(head + b"\x00"), shortest(6, number) + b"\x00")
                self.assertEqual(nodes(head + b"\x00"), [(6, number, None), (0, 0, None)])

    def test_lengths_and_counts_past_one_byte(self):
        for length in (23, 24, 255, 256, 390):
            content = bytes([120] * length)
            for major in (2, 3):
                for head in all_heads(major, length):
                    self.assertEqual(written(head + content), shortest(major, length) + content)
            for head in all_heads(4, length):
                self.assertEqual(written(head + bytes(length)), shortest(4, length) + bytes(length))

    def test_pairs_past_one_byte(self):
        for count in (23, 24, 25, 130):
            pairs = b"".join(shortest(0, key) + b"\x00" for key in range(count))
            for head in all_heads(5, count):
                self.assertEqual(written(head + pairs), shortest(5, count) + pairs)


class WrongHeads(unittest.TestCase):
    def test_28_to_30_are_never_right(self):
        for major in range(8):
            for info in (28, 29, 30):
                for behind in (b"", b"\x00", b"\x00" * 16, b"\xff"):
                    self.assertEqual(written(bytes([32 * major + info]) + behind), -1)

    def test_31_where_it_is_not_told(self):
        for major in (0, 1, 6, 7):
            for behind in (b"", b"\x00", b"\xff", b"\x00\xff"):
                self.assertEqual(written(bytes([32 * major + 31]) + behind), -1)

    def test_31_deep_within_where_it_is_not_told(self):
        for inner in (b"\x1f", b"\x3f", b"\xdf\x00", b"\xff"):
            self.assertEqual(written(b"\x81" + inner), -1)
            self.assertEqual(written(b"\xa1" + inner + b"\x00"), -1)
            self.assertEqual(written(b"\xa1\x00" + inner), -1)
            self.assertEqual(written(b"\xc0" + inner), -1)

    def test_no_bytes_at_all(self):
        self.assertEqual(written([]), -1)

    def test_bytes_behind_the_item(self):
        for item in (b"\x00", b"\x18\x18", b"\x41a", b"\x61a", b"\x80", b"\x9f\xff", b"\xa0", b"\xbf\xff",
                     b"\xc0\x00", b"\xf4", b"\xf8\x20", b"\xf9\x00\x00", b"\x5f\xff", b"\x7f\xff"):
            self.assertNotIn(written(item), (-1, -2))
            for behind in (b"\x00", b"\xff", item):
                self.assertEqual(written(item + behind), -1)

    def test_ending_too_early(self):
        wholes = (
            b"\x18\x20", b"\x19\x01\x00", b"\x1a\x00\x01\x00\x00", b"\x1b" + b"\x01" * 8, b"\x3b" + b"\x01" * 8,
            b"\x43abc", b"\x58\x03abc", b"\x5f\x42ab\x41c\xff", b"\x63abc", b"\x7f\x62ab\x61c\xff",
            b"\x83\x01\x02\x03", b"\x98\x02\x01\x02", b"\x9f\x01\x02\xff", b"\xa2\x01\x02\x03\x04",
            b"\xbf\x01\x02\x03\x04\xff", b"\xc1\x00", b"\xd8\x20\x18\x20", b"\xf8\xff", b"\xf9\x3c\x00",
            b"\xfa\x3f\x80\x00\x00", b"\xfb\x3f\xf0" + bytes(6), b"\x81\xa1\x9f\xff\xc1\x5f\x41a\xff",
        )
        for whole in wholes:
            self.assertNotIn(written(whole), (-1, -2))
            for length in range(len(whole)):
                self.assertEqual(written(whole[:length]), -1, whole[:length].hex())

    def test_greatest_lengths_and_counts(self):
        for major in (2, 3, 4, 5):
            for number in (2 ** 63, 2 ** 64 - 1):
                head = bytes([32 * major + 27]) + number.to_bytes(8, "big")
                self.assertEqual(written(head), -1)
                self.assertEqual(written(head + bytes(20)), -1)
