"""Byte strings and texts, with a length and in parts, and UTF-8."""

import unittest

from tests.helper import nodes, written


def text(content):
    head = bytes([96 + len(content)]) if len(content) < 24 else bytes([120, len(content)])
    return head + content


def parts(major, contents):
    head = 32 * major
    return bytes([head + 31]) + b"".join(bytes([head + len(one)]) + one for one in contents) + b"\xff"


class Lengths(unittest.TestCase):
    def test_empty(self):
        self.assertEqual(written(b"\x40"), b"\x40")
        self.assertEqual(written(b"\x60"), b"\x60")
        self.assertEqual(nodes(b"\x40"), [(2, 0, b"")])
        self.assertEqual(nodes(b"\x60"), [(3, 0, b"")])

    def test_byte_strings_hold_any_bytes(self):
        for byte in range(256):
            self.assertEqual(nodes(bytes([66, byte, byte])), [(2, 2, bytes([byte, byte]))])

    def test_byte_string_and_text_are_different(self):
        self.assertEqual(written(b"\x41a"), b"\x41a")
        self.assertEqual(written(b"\x61a"), b"\x61a")


class Parts(unittest.TestCase):
    def test_no_part(self):
        self.assertEqual(written(b"\x5f\xff"), b"\x40")
        self.assertEqual(written(b"\x7f\xff"), b"\x60")

    def test_joined(self):
        for major in (2, 3):
            first = bytes([32 * major + 6])
            for contents in ([b"abcdef"], [b"ab", b"cdef"], [b"a", b"", b"bcde", b"f"], [b"", b"", b"abcdef", b""]):
                self.assertEqual(written(parts(major, contents)), first + b"abcdef")
                self.assertEqual(nodes(parts(major, contents)), [(major, 6, b"abcdef")])

    def test_only_empty_parts(self):
        self.assertEqual(written(parts(2, [b"", b""])), b"\x40")
        self.assertEqual(written(parts(3, [b"", b""])), b"\x60")

    def test_joined_past_a_short_length(self):
        for major in (2, 3):
            data = parts(major, [b"x" * 12, b"y" * 12])
            self.assertEqual(written(data), bytes([32 * major + 24, 24]) + b"x" * 12 + b"y" * 12)
            data = parts(major, [b"z" * 23] * 12)
            self.assertEqual(written(data), bytes([32 * major + 25, 1, 20]) + b"z" * 276)

    def test_a_part_with_a_longer_head(self):
        self.assertEqual(written(b"\x5f\x58\x01a\x59\x00\x01b\x5a\x00\x00\x00\x01c\xff"), b"\x43abc")
        self.assertEqual(written(b"\x7f\x7b" + bytes(7) + b"\x01a\x78\x00\xff"), b"\x61a")

    def test_a_part_that_holds_the_byte_255(self):
        self.assertEqual(written(b"\x5f\x42\xff\xff\xff"), b"\x42\xff\xff")

    def test_a_part_of_another_sort(self):
        for other in (b"\x00", b"\x20", b"\x61a", b"\x80", b"\xa0", b"\xc0\x41a", b"\xf4", b"\xf9\x00\x00"):
            self.assertEqual(written(b"\x5f" + other + b"\xff"), -1)
            self.assertEqual(written(b"\x5f\x41a" + other + b"\xff"), -1)
        for other in (b"\x00", b"\x20", b"\x41a", b"\x80", b"\xa0", b"\xc0\x61a", b"\xf4", b"\xf9\x00\x00"):
            self.assertEqual(written(b"\x7f" + other + b"\xff"), -1)
            self.assertEqual(written(b"\x7f\x61a" + other + b"\xff"), -1)

    def test_a_part_in_parts(self):
        self.assertEqual(written(b"\x5f\x5f\xff\xff"), -1)
        self.assertEqual(written(b"\x5f\x5f\x41a\xff\xff"), -1)
        self.assertEqual(written(b"\x7f\x7f\xff\xff"), -1)
        self.assertEqual(written(b"\x7f\x61a\x7f\x61b\xff\xff"), -1)

    def test_a_part_with_a_wrong_head(self):
        for info in (28, 29, 30):
            self.assertEqual(written(bytes([95, 64 + info, 255])), -1)
            self.assertEqual(written(bytes([127, 96 + info, 255])), -1)

    def test_a_part_longer_than_what_is_left(self):
        self.assertEqual(written(b"\x5f\x43ab"), -1)
        self.assertEqual(written(b"\x5f\x43ab\xff"), -1)
        self.assertEqual(written(b"\x7f\x7b" + b"\xff" * 8 + b"a\xff"), -1)


class Utf8(unittest.TestCase):
    def assert_right(self, content):
        self.assertEqual(written(text(content)), text(content), content.hex())
        self.assertEqual(written(b"\x7f" + text(content) + b"\xff"), text(content), content.hex())

    def assert_wrong(self, content):
        for around in (content, b"a" + content, content + b"a"):
            self.assertEqual(written(text(around)), -1, around.hex())
            self.assertEqual(written(b"\x7f" + text(around) + b"\xff"), -1, around.hex())
            self.assertEqual(written(b"\x81" + text(around)), -1, around.hex())
            self.assertEqual(written(b"\xa1" + text(around) + b"\x00"), -1, around.hex())
        # The same bytes in a byte string are nobody's characters.
        self.assertEqual(written(bytes([64 + len(content)]) + content), bytes([64 + len(content)]) + content)

    def test_first_and_last_of_each_length(self):
        for code in (0, 0x7f, 0x80, 0x7ff, 0x800, 0xd7ff, 0xe000, 0xfffd, 0xffff, 0x10000, 0x10ffff):
            self.assert_right(chr(code).encode("utf-8"))

    def test_many_characters(self):
        self.assert_right("a\u00e4\u20ac\U0001d11e\u0000z".encode("utf-8"))

    def test_not_composed_or_changed(self):
        self.assertEqual(written(text("e\u0301".encode())), text("e\u0301".encode()))
        self.assertEqual(written(text("\u00e9".encode())), text("\u00e9".encode()))

    def test_not_in_shortest_form(self):
        for content in (b"\xc0\x80", b"\xc0\xaf", b"\xc1\xbf", b"\xe0\x80\x80", b"\xe0\x9f\xbf",
                        b"\xf0\x80\x80\x80", b"\xf0\x8f\xbf\xbf", b"\xe0\x81\x81"):
            self.assert_wrong(content)

    def test_surrogates(self):
        for content in (b"\xed\xa0\x80", b"\xed\xaf\xbf", b"\xed\xb0\x80", b"\xed\xbf\xbf",
                        b"\xed\xa0\x80\xed\xb0\x80"):
            self.assert_wrong(content)
        self.assert_right(b"\xed\x9f\xbf")
        self.assert_right(b"\xee\x80\x80")

    def test_past_the_last_character(self):
        for content in (b"\xf4\x90\x80\x80", b"\xf5\x80\x80\x80", b"\xf7\xbf\xbf\xbf", b"\xf8\x88\x80\x80\x80",
                        b"\xfc\x84\x80\x80\x80\x80", b"\xfe", b"\xff"):
            self.assert_wrong(content)
        self.assert_right(b"\xf4\x8f\xbf\xbf")

    def test_broken_off(self):
        for content in (b"\xc2", b"\xdf", b"\xe0", b"\xe0\xa0", b"\xe2\x82", b"\xf0", b"\xf0\x90", b"\xf0\x90\x80"):
            self.assert_wrong(content)

    def test_a_following_byte_alone_or_missing(self):
        for content in (b"\x80", b"\xbf", b"\xc2\xc2", b"\xc2\x00", b"\xe2\x82\xc2", b"\xe2\x28\xac", b"\xf0\x28\x8c\xbc",
                        b"\xf0\x90\x28\xbc", b"\xf0\x90\x8c\x28", b"\xf0\x90\x8c\xff", b"\xe2\x82\xac\xac"):
            self.assert_wrong(content)

    def test_split_between_parts(self):
        for content in ("\u00e4".encode(), "\u20ac".encode(), "\U0001d11e".encode()):
            for at in range(1, len(content)):
                self.assertEqual(written(parts(3, [content[:at], content[at:]])), -1)
                self.assertEqual(written(parts(2, [content[:at], content[at:]])), bytes([64 + len(content)]) + content)
            self.assertEqual(written(parts(3, [content, content])), text(content * 2))

    def test_every_one_and_two_bytes(self):
        for first in range(256):
            for content in [bytes([first])] + [bytes([first, second]) for second in range(256)]:
                try:
                    content.decode("utf-8")
                    expected = text(content)
                except UnicodeDecodeError:
                    expected = -1
                self.assertEqual(written(text(content)), expected)

    def test_three_and_four_bytes_at_the_edges(self):
        near = (0x7f, 0x80, 0x8f, 0x90, 0x9f, 0xa0, 0xbf, 0xc0)
        rows = [bytes([a, b, c]) for a in range(0xe0, 0xf0) for b in near for c in near]
        rows += [bytes([a, b, c, d]) for a in range(0xf0, 0x100) for b in near for c in near for d in near]
        for content in rows:
            try:
                content.decode("utf-8")
                expected = text(content)
            except UnicodeDecodeError:
                expected = -1
            self.assertEqual(written(text(content)), expected, content.hex())
