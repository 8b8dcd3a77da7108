"""The order of a map's pairs, and keys twice."""

import itertools
import unittest

from tests.helper import nodes, written


def of_pairs(*pairs):
    return bytes([160 + len(pairs)]) + b"".join(key + value for key, value in pairs)


class Order(unittest.TestCase):
    # In the order of their one forms, byte by byte: a shorter one isn't ahead for being shorter.
    KEYS = (b"\x0a", b"\x18\x64", b"\x19\x01\x00", b"\x20", b"\x38\x64", b"\x40", b"\x41\x00", b"\x42\x00\x00", b"\x60",
            b"\x61z", b"\x62aa", b"\x80", b"\x81\x18\x64", b"\x81\x20", b"\x82\x00\x00", b"\xa0", b"\xa1\x00\x00",
            b"\xc0\x00", b"\xd8\x64\x00", b"\xf4", b"\xf8\xff", b"\xf9\x00\x00", b"\xf9\x80\x00", b"\xfa\x47\xc3\x50\x00")

    def test_pairs_of_keys(self):
        for low, high in itertools.combinations(self.KEYS, 2):
            form = of_pairs((low, b"\x01"), (high, b"\x02"))
            self.assertEqual(written(form), form)
            self.assertEqual(written(of_pairs((high, b"\x02"), (low, b"\x01"))), form)

    def test_all_keys_backwards(self):
        pairs = [key + b"\x00" for key in self.KEYS]
        form = bytes([184, len(pairs)]) + b"".join(pairs)
        self.assertEqual(written(b"\xbf" + b"".join(reversed(pairs)) + b"\xff"), form)

    def test_the_examples_of_the_rfc(self):
        # RFC 8949, 4.2.1: 10, 100, -1, "z", "aa", [100], [-1], false.
        keys = [b"\x0a", b"\x18\x64", b"\x20", b"\x61z", b"\x62aa", b"\x81\x18\x64", b"\x81\x20", b"\xf4"]
        form = of_pairs(*[(key, b"\x00") for key in keys])
        for turn in range(len(keys)):
            turned = keys[turn:] + keys[:turn]
            self.assertEqual(written(of_pairs(*[(key, b"\x00") for key in turned])), form)

    def test_bytes_are_unsigned(self):
        self.assertEqual(written(of_pairs((b"\x41\x80", b"\x01"), (b"\x41\x7f", b"\x02"))),
                         of_pairs((b"\x41\x7f", b"\x02"), (b"\x41\x80", b"\x01")))

    def test_by_one_forms_not_by_what_was_read(self):
        # Read, 1 is the greater and 2 the lesser row of bytes.
        self.assertEqual(written(of_pairs((b"\x02", b"\x0b"), (b"\x18\x01", b"\x0a"))), b"\xa2\x01\x0a\x02\x0b")
        # A string in parts, whose first byte is the greater one.
        self.assertEqual(written(of_pairs((b"\x7f\x61a\xff", b"\x0a"), (b"\x61b", b"\x0b"))), b"\xa2\x61a\x0a\x61b\x0b")
        self.assertEqual(written(of_pairs((b"\x62aa", b"\x0b"), (b"\x7f\x60\x61b\xff", b"\x0a"))),
                         b"\xa2\x61b\x0a\x62aa\x0b")
        # An array and a map up to the byte 255.
        self.assertEqual(written(of_pairs((b"\x82\x00\x00", b"\x0b"), (b"\x9f\x05\xff", b"\x0a"))),
                         b"\xa2\x81\x05\x0a\x82\x00\x00\x0b")
        self.assertEqual(written(of_pairs((b"\xa1\x01\x00", b"\x0b"), (b"\xbf\xff", b"\x0a"))),
                         b"\xa2\xa0\x0a\xa1\x01\x00\x0b")
        # A double that becomes a half, ahead of a single.
        self.assertEqual(written(of_pairs((b"\xfa\x47\xc3\x50\x00", b"\x0b"), (b"\xfb\x3f\xf0" + bytes(6), b"\x0a"))),
                         b"\xa2\xf9\x3c\x00\x0a\xfa\x47\xc3\x50\x00\x0b")
        # A map as key, whose own pairs are to be set in order first.
        self.assertEqual(written(of_pairs((b"\xa2\x09\x00\x01\x00", b"\x0a"), (b"\xa2\x02\x00\x03\x00", b"\x0b"))),
                         b"\xa2\xa2\x01\x00\x09\x00\x0a\xa2\x02\x00\x03\x00\x0b")

    def test_values_go_with_their_keys(self):
        self.assertEqual(written(b"\xa3\x03\x61c\x01\x61a\x02\x61b"), b"\xa3\x01\x61a\x02\x61b\x03\x61c")
        self.assertEqual(nodes(b"\xa2\x02\x82\x07\x08\x01\x61a"), [
            (5, 2, None), (0, 1, None), (3, 1, b"a"), (0, 2, None), (4, 2, None), (0, 7, None), (0, 8, None)])

    def test_maps_within(self):
        self.assertEqual(written(b"\x81\xa1\x00\xa2\x02\x00\x01\x00"), b"\x81\xa1\x00\xa2\x01\x00\x02\x00")
        self.assertEqual(written(b"\xc0\xbf\x02\x00\x01\x00\xff"), b"\xc0\xa2\x01\x00\x02\x00")


class Twice(unittest.TestCase):
    SAME = (
        (b"\x01", b"\x18\x01", b"\x19\x00\x01", b"\x1b" + bytes(7) + b"\x01"),
        (b"\x20", b"\x38\x00"),
        (b"\x42ab", b"\x58\x02ab", b"\x5f\x41a\x41b\xff", b"\x5f\x42ab\x40\xff"),
        (b"\x62ab", b"\x78\x02ab", b"\x7f\x61a\x61b\xff", b"\x7f\x60\x62ab\xff"),
        (b"\x40", b"\x5f\xff", b"\x5f\x40\xff"),
        (b"\x80", b"\x9f\xff", b"\x98\x00"),
        (b"\x82\x01\x02", b"\x9f\x01\x02\xff", b"\x82\x18\x01\x02"),
        (b"\xa0", b"\xbf\xff", b"\xb8\x00"),
        (b"\xa2\x01\x02\x03\x04", b"\xa2\x03\x04\x01\x02", b"\xbf\x03\x18\x04\x01\x02\xff"),
        (b"\xc1\x00", b"\xd8\x01\x00", b"\xc1\x18\x00"),
        (b"\xf4",),
        (b"\xf8\x20",),
        (b"\xf9\x3c\x00", b"\xfa\x3f\x80\x00\x00", b"\xfb\x3f\xf0" + bytes(6)),
        (b"\xf9\x00\x00", b"\xfa" + bytes(4), b"\xfb" + bytes(8)),
        (b"\xf9\x7c\x00", b"\xfa\x7f\x80\x00\x00"),
        (b"\xf9\x7e\x00", b"\xf9\x7c\x01", b"\xf9\xff\xff", b"\xfa\x7f\xc0\x00\x01", b"\xfb\xff\xf8" + bytes(6)),
    )
    DIFFERENT = (b"\x00", b"\x01", b"\x20", b"\x21", b"\x40", b"\x60", b"\x41a", b"\x61a", b"\x80", b"\xa0", b"\xc0\x00",
                 b"\xc1\x00", b"\xf4", b"\xf5", b"\xe0", b"\xe1", b"\xf9\x00\x00", b"\xf9\x80\x00", b"\xf9\x3c\x00",
                 b"\xf9\x7c\x00", b"\xf9\x7e\x00", b"\x81\x01", b"\x62a\x00", b"\x7f\x61e\x62\xcc\x81\xff", b"\x62\xc3\xa9")

    def test_written_in_two_ways(self):
        for ways in self.SAME:
            for one in ways:
                for other in ways:
                    data = of_pairs((one, b"\x00"), (other, b"\x01"))
                    self.assertEqual(written(data), -2, data.hex())
                    # The values don't matter, nor what stands between.
                    self.assertEqual(written(of_pairs((one, b"\x00"), (other, b"\x00"))), -2)
                    between = of_pairs((one, b"\x00"), (b"\x17", b"\x00"), (b"\xf6", b"\x00"), (other, b"\x00"))
                    self.assertEqual(written(between), -2)
                    self.assertEqual(written(b"\xbf" + between[1:] + b"\xff"), -2)

    def test_different_keys_are_not_twice(self):
        for one, other in itertools.combinations(self.DIFFERENT, 2):
            self.assertNotIn(written(of_pairs((one, b"\x00"), (other, b"\x00"))), (-1, -2))

    def test_deep_within(self):
        twice = b"\xa2\x01\x00\x18\x01\x00"
        for data in (b"\x81" + twice, b"\x82\x00" + twice, b"\xc0" + twice, b"\xa1\x00" + twice,
                     b"\xa1" + twice + b"\x00", b"\x9f" + twice + b"\xff", b"\xbf\x00" + twice + b"\xff",
                     b"\x81" * 15 + twice, b"\xc0" * 15 + twice, b"\xa1\x81\xa1\xc0" + twice + b"\x00\x00",
                     b"\x82" + twice + b"\x00"):
            self.assertEqual(written(data), -2, data.hex())

    def test_the_same_key_in_different_maps(self):
        for data in (b"\x82\xa1\x01\x00\xa1\x01\x00", b"\xa1\x01\xa1\x01\x00", b"\xa2\x01\xa1\x01\x00\x02\xa1\x01\x00",
                     b"\xa1\xa1\x01\x00\xa1\x01\x00"):
            self.assertEqual(written(data), data)

    def test_the_same_value_twice(self):
        self.assertEqual(written(b"\xa2\x01\x05\x02\x05"), b"\xa2\x01\x05\x02\x05")
        self.assertEqual(written(b"\xa2\x01\x02\x02\x01"), b"\xa2\x01\x02\x02\x01")

    def test_not_well_formed_comes_first(self):
        twice = b"\xa2\x01\x00\x01\x00"
        for data in (twice + b"\x00", twice + b"\xff", b"\x82" + twice, b"\x9f" + twice, b"\x82" + twice + b"\xff",
                     b"\x82" + twice + b"\x1c", b"\x82" + twice + b"\x61\xff", b"\x82" + twice + b"\xf8\x00",
                     b"\xa3\x01\x00\x01\x00", b"\xa3\x01\x00\x01\x00\x02", b"\xa2\x01\x00\x01",
                     b"\xbf\x01\x00\x01\xff", b"\xbf\x01\x00\x01\x00", b"\x81" * 16 + twice,
                     b"\x82" + twice + b"\x81" * 16 + b"\x00", b"\xa2\x01\x00\x01\x1c"):
            self.assertEqual(written(data), -1, data.hex())
