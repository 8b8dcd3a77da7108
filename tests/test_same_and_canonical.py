"""Same and canonical: which bytes mean the value, and which are a value's one form."""

import unittest

from oneformroom.values import answers
from tests.helper import COUNT, FIND, PART, WRITE, ask, canonical, find, read, row, same, written

# The one form of a value, and other ways to write it.
WAYS = (
    (b"\x00", b"\x18\x00", b"\x19\x00\x00", b"\x1a\x00\x00\x00\x00", b"\x1b" + bytes(8)),
    (b"\x17", b"\x18\x17"),
    (b"\x18\x18", b"\x19\x00\x18"),
    (b"\x18\xff", b"\x19\x00\xff"),
    (b"\x19\x01\x00", b"\x1a\x00\x00\x01\x00"),
    (b"\x19\xff\xff", b"\x1a\x00\x00\xff\xff"),
    (b"\x1a\x00\x01\x00\x00", b"\x1b\x00\x00\x00\x00\x00\x01\x00\x00"),
    (b"\x1a\xff\xff\xff\xff", b"\x1b\x00\x00\x00\x00\xff\xff\xff\xff"),
    (b"\x1b\x00\x00\x00\x01\x00\x00\x00\x00",),
    (b"\x1b" + b"\xff" * 8,),
    (b"\x20", b"\x38\x00", b"\x3b" + bytes(8)),
    (b"\x3b" + b"\xff" * 8,),
    (b"\x40", b"\x58\x00", b"\x5f\xff", b"\x5f\x40\xff"),
    (b"\x42ab", b"\x58\x02ab", b"\x5f\x42ab\xff", b"\x5f\x41a\x41b\xff", b"\x5f\x41a\x40\x58\x01b\xff"),
    (b"\x60", b"\x78\x00", b"\x7f\xff", b"\x7f\x60\xff"),
    (b"\x62ab", b"\x78\x02ab", b"\x7f\x62ab\xff", b"\x7f\x61a\x61b\xff"),
    (b"\x58\x18" + b"x" * 24, b"\x59\x00\x18" + b"x" * 24, b"\x5f\x4c" + b"x" * 12 + b"\x4c" + b"x" * 12 + b"\xff"),
    (b"\x80", b"\x98\x00", b"\x9f\xff"),
    (b"\x82\x01\x02", b"\x98\x02\x01\x02", b"\x9f\x01\x02\xff", b"\x82\x18\x01\x02", b"\x82\x01\x18\x02"),
    (b"\x81\x80", b"\x81\x9f\xff", b"\x9f\x80\xff", b"\x9f\x9f\xff\xff"),
    (b"\xa0", b"\xb8\x00", b"\xbf\xff"),
    (b"\xa2\x01\x0a\x02\x0b", b"\xa2\x02\x0b\x01\x0a", b"\xbf\x01\x0a\x02\x0b\xff", b"\xb8\x02\x01\x0a\x02\x0b",
     b"\xa2\x01\x0a\x18\x02\x0b", b"\xbf\x02\x18\x0b\x01\x0a\xff"),
    (b"\xa2\x61b\x00\x62aa\x00", b"\xa2\x62aa\x00\x61b\x00"),
    (b"\xa1\xa2\x01\x00\x02\x00\x00", b"\xa1\xa2\x02\x00\x01\x00\x00"),
    (b"\xc1\x00", b"\xd8\x01\x00", b"\xc1\x18\x00"),
    (b"\xd8\x18\x00", b"\xd9\x00\x18\x00"),
    (b"\xdb" + b"\xff" * 8 + b"\x00",),
    (b"\xf4",),
    (b"\xe0",),
    (b"\xf8\x20",),
    (b"\xf8\xff",),
    (b"\xf9\x00\x00", b"\xfa" + bytes(4), b"\xfb" + bytes(8)),
    (b"\xf9\x80\x00", b"\xfa\x80" + bytes(3), b"\xfb\x80" + bytes(7)),
    (b"\xf9\x3c\x00", b"\xfa\x3f\x80\x00\x00", b"\xfb\x3f\xf0" + bytes(6)),
    (b"\xf9\x00\x01", b"\xfa\x33\x80\x00\x00", b"\xfb\x3e\x70" + bytes(6)),
    (b"\xf9\x7c\x00", b"\xfa\x7f\x80\x00\x00", b"\xfb\x7f\xf0" + bytes(6)),
    (b"\xf9\xfc\x00", b"\xfa\xff\x80\x00\x00", b"\xfb\xff\xf0" + bytes(6)),
    (b"\xf9\x7e\x00", b"\xf9\x7e\x01", b"\xf9\x7c\x01", b"\xf9\xfe\x00", b"\xfa\x7f\xc0\x00\x00", b"\xfa\xff\xc0\x00\x01",
     b"\xfb\x7f\xf8" + bytes(6), b"\xfb\xff\xf8" + bytes(6)),
    (b"\xfa\x47\xc3\x50\x00", b"\xfb\x40\xf8\x6a" + bytes(5)),
    (b"\xfb\x3f\xf1" + b"\x99" * 5 + b"\x9a",),
    (b"\x81" * 16 + b"\x00", b"\x9f" * 16 + b"\x00" + b"\xff" * 16),
    (b"\xc1" * 16 + b"\x00", b"\xd8\x01" * 16 + b"\x00"),
)
NOT_WELL_FORMED = (
    b"", b"\x18", b"\x1c", b"\x1f", b"\x3f", b"\xff", b"\x00\x00", b"\x00\xff", b"\x42a", b"\x61\xff", b"\x63\xed\xa0\x80",
    b"\x62\xc0\x80", b"\x5f\x61a\xff", b"\x5f\x41a", b"\x7f\x61\xc3\x61\xa9\xff", b"\x82\x01", b"\x81\x01\x02", b"\x9f\x01",
    b"\xa1\x01", b"\xbf\x01\xff", b"\xc1", b"\xdf\x00", b"\xf8\x00", b"\xf8\x1f", b"\xf9\x00", b"\xfb" + bytes(7),
    b"\x81" * 17 + b"\x00", b"\x81" * 16 + b"\x80", b"\xc1" * 17 + b"\x00", b"\xa1\x00" * 17 + b"\x00", b"\x81" * 400,
    b"\x9b" + b"\xff" * 8, b"\x80\x80", b"\xa0\xff",
)
KEY_TWICE = (
    b"\xa2\x01\x00\x01\x00", b"\xa2\x01\x00\x01\x02", b"\xa2\x01\x00\x18\x01\x00", b"\xbf\x61a\x00\x7f\x61a\xff\x00\xff",
    b"\x81\xa2\x01\x00\x01\x00", b"\xa1\xa2\x01\x00\x01\x00\x00", b"\xa1\x00\xa2\x01\x00\x01\x00", b"\xc1\xa2\x80\x00\x80\x00",
    b"\xa2\xf9\x7e\x00\x00\xf9\x7e\x01\x00", b"\xa2\xf9\x3c\x00\x00\xfa\x3f\x80\x00\x00\x00",
)
BOTH = (
    b"\xa2\x01\x00\x01\x00\x00", b"\x82\xa2\x01\x00\x01\x00", b"\x82\xa2\x01\x00\x01\x00\x1c", b"\xa3\x01\x00\x01\x00",
    b"\x81" * 16 + b"\xa2\x01\x00\x01\x00",
)


class AsTheyStand(unittest.TestCase):
    def test_lists(self):
        self.assertEqual(answers([1, 1, 5, 10, 2, 24, 5]), [1, 0, 2, 0, 1])
        self.assertEqual(answers([1, 1, 5, 10, 1, 6]), [1, 0, 2, 0, 0])
        self.assertEqual(answers([1, 1, 5, 10, 0]), [1, 0, 1, -1])
        self.assertEqual(answers([1, 1, 5, 10, 5, 162, 1, 0, 1, 0]), [1, 0, 1, -2])
        self.assertEqual(answers([10, 1, 5]), [1, -9])
        self.assertEqual(answers([11, 1, 5, 11, 2, 24, 5, 11, 0]), [2, 0, 1, 2, 0, 0, 2, 0, 0])


class Same(unittest.TestCase):
    def test_the_same_value_in_other_ways(self):
        for ways in WAYS:
            for one in ways:
                for other in ways:
                    self.assertEqual(ask(read(one), same(other)), [[0], [0, 1]], (one.hex(), other.hex()))

    def test_others(self):
        for k, ways in enumerate(WAYS):
            for m, others in enumerate(WAYS):
                if k != m:
                    self.assertEqual(ask(read(ways[-1]), same(others[0]), same(others[-1])), [[0], [0, 0], [0, 0]],
                                     (ways[-1].hex(), others[0].hex()))

    def test_nearly_the_same(self):
        for one, other in ((b"\x01", b"\xf9\x3c\x00"), (b"\x00", b"\xf9\x00\x00"), (b"\xf9\x00\x00", b"\xf9\x80\x00"),
                           (b"\x41a", b"\x61a"), (b"\x80", b"\xa0"), (b"\x82\x01\x02", b"\x82\x02\x01"),
                           (b"\x81\x01", b"\x01"), (b"\xc1\x00", b"\x00"), (b"\xc1\x00", b"\xc2\x00"),
                           (b"\xc2\x41\x05", b"\x05"), (b"\xa1\x01\x02", b"\xa1\x02\x01"), (b"\x00", b"\x20"),
                           (b"\xf4", b"\x00"), (b"\xf6", b"\xf7"), (b"\x62\xc3\xa9", b"\x63e\xcc\x81"),
                           (b"\x82\x01\x02", b"\xa1\x01\x02"), (b"\xf9\x7c\x00", b"\xf9\xfc\x00"), (b"\x62ab", b"\x63abc")):
            self.assertEqual(ask(read(one), same(other), same(one)), [[0], [0, 0], [0, 1]])
            self.assertEqual(ask(read(other), same(one), same(other)), [[0], [0, 0], [0, 1]])

    def test_not_well_formed(self):
        for wrong in NOT_WELL_FORMED + BOTH:
            self.assertEqual(ask(read(b"\x05"), same(wrong)), [[0], [-1]], wrong.hex())

    def test_a_key_twice(self):
        for wrong in KEY_TWICE:
            self.assertEqual(ask(read(b"\x05"), same(wrong)), [[0], [-2]], wrong.hex())

    def test_no_value_comes_first(self):
        for data in (b"\x05", b"\x18\x05") + NOT_WELL_FORMED + KEY_TWICE + BOTH:
            self.assertEqual(ask(same(data)), [[-9]])
        self.assertEqual(ask(read(b""), same(b"\x05"), read(b"\xa2\x01\x00\x01\x00"), same(b"")), [[-1], [-9], [-2], [-9]])

    def test_the_value_is_the_same_one_as_before(self):
        data = b"\x82\x61a\xa1\x01\x02"
        for other in (data, b"\x9f\x61a\xa1\x01\x02\xff", b"\x07", b"\xa1\x01\x02", b"", b"\xff") + KEY_TWICE + BOTH:
            told = ask(read(data), same(other), [WRITE], [COUNT], [PART, 1], find(2, b"\x01"), same(data))
            self.assertEqual(told[2:], [row(data), [0, 5], row(b"\x61a"), [0, 4], [0, 1]])
            # Nor does it give a value where there's none.
            self.assertEqual(ask(same(other), [WRITE], [COUNT], [FIND, 0, 0]), [[-9]] * 4)

    def test_parts_mean_themselves(self):
        data = b"\xa2\x01\x82\x02\x03\x61a\xc1\x04"
        for i, part in enumerate((data, b"\x01", b"\x82\x02\x03", b"\x02", b"\x03", b"\x61a", b"\xc1\x04", b"\x04")):
            self.assertEqual(ask(read(data), [PART, i], read(part), same(part), [PART, 0]),
                             [[0], row(part), [0], [0, 1], row(part)])

    def test_400_bytes(self):
        data = b"\x9f" + bytes(398) + b"\xff"
        self.assertEqual(ask(read(data), same(data), same(data[:-2] + b"\xff"), same(data[:-1]), same(b"\x00" * 400)),
                         [[0], [0, 1], [0, 0], [-1], [-1]])


class Canonical(unittest.TestCase):
    def check(self, data, expected):
        self.assertEqual(ask(canonical(data)), [[0, expected]], data.hex())
        # It's the same whatever value there is, and that value is afterwards as before.
        for value in (b"\x82\x61a\x07", data):
            before, first, told, second = ask(canonical(data), read(value), canonical(data), [WRITE])
            self.assertEqual([before, told], [[0, expected]] * 2)
            self.assertEqual(second, row(written(value)) if first == [0] else [-9])

    def test_the_one_form(self):
        for ways in WAYS:
            self.check(ways[0], 1)

    def test_other_ways(self):
        for ways in WAYS:
            for way in ways[1:]:
                self.check(way, 0)

    def test_another_way_anywhere_within(self):
        for ahead, behind in ((b"\x81", b""), (b"\x82\x00", b""), (b"\x82", b"\x00"), (b"\xa1", b"\x00"), (b"\xa1\x00", b""),
                              (b"\xc1", b""), (b"\x81\xa1\xc1", b"\x00")):
            for ways in WAYS:
                if ways[0].startswith((b"\x81\x81", b"\xc1\xc1")):
                    continue
                self.check(ahead + ways[0] + behind, 1)
                for way in ways[1:]:
                    self.check(ahead + way + behind, 0)

    def test_a_key_twice(self):
        for wrong in KEY_TWICE:
            self.check(wrong, 0)

    def test_not_well_formed(self):
        for wrong in NOT_WELL_FORMED + BOTH:
            self.check(wrong, 0)

    def test_bytes_behind_the_item(self):
        for ways in WAYS:
            for behind in (b"\x00", b"\xff", ways[0]):
                self.check(ways[0] + behind, 0)

    def test_beginnings_of_the_one_form(self):
        for ways in WAYS:
            for length in range(len(ways[0])):
                self.check(ways[0][:length], 0)

    def test_16_and_17_deep(self):
        for wrap in (b"\x81", b"\xc1", b"\xa1\x00"):
            self.check(wrap * 16 + b"\x00", 1)
            self.check(wrap * 17 + b"\x00", 0)
            self.check(wrap * 15 + b"\x80", 1)
            self.check(wrap * 16 + b"\x80", 0)

    def test_the_order_of_pairs(self):
        keys = (b"\x0a", b"\x18\x64", b"\x20", b"\x61z", b"\x62aa", b"\x81\x18\x64", b"\x81\x20", b"\xf4")
        for k, low in enumerate(keys):
            for high in keys[k + 1:]:
                self.check(b"\xa2" + low + b"\x02" + high + b"\x01", 1)
                self.check(b"\xa2" + high + b"\x01" + low + b"\x02", 0)

    def test_400_bytes(self):
        data = b"\x59\x01\x8d" + bytes(397)
        self.check(data, 1)
        self.check(b"\x99\x01\x8d" + bytes(397), 1)
        self.check(b"\x9f" + bytes(398) + b"\xff", 0)
        self.check(bytes(400), 0)

    def test_where_there_is_no_value_there_is_none_afterwards(self):
        self.assertEqual(ask(canonical(b"\x05"), [WRITE], canonical(b""), [COUNT], same(b"\x05"), [PART, 0]),
                         [[0, 1], [-9], [0, 0], [-9], [-9], [-9]])
