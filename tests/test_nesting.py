"""Arrays, maps and tags, with a count and up to the byte 255, and the limits."""

import unittest

from oneformroom.reading import one_form
from oneformroom.refusals import NotWellFormed
from tests.helper import nodes, written

# Each puts one item into an array, a map (as its value, as its key) or a tag.
WRAPS = (
    (b"\x81", b"", b"\x81", b""),
    (b"\x9f", b"\xff", b"\x81", b""),
    (b"\xa1\x00", b"", b"\xa1\x00", b""),
    (b"\xbf\x00", b"\xff", b"\xa1\x00", b""),
    (b"\xa1", b"\x00", b"\xa1", b"\x00"),
    (b"\xbf", b"\x00\xff", b"\xa1", b"\x00"),
    (b"\xc1", b"", b"\xc1", b""),
    (b"\xd8\x01", b"", b"\xc1", b""),
)


def wrapped(wraps, inner):
    data, form = inner, inner
    for ahead, behind, form_ahead, form_behind in reversed(wraps):
        data, form = ahead + data + behind, form_ahead + form + form_behind
    return data, form


class Arrays(unittest.TestCase):
    def test_empty(self):
        self.assertEqual(written(b"\x80"), b"\x80")
        self.assertEqual(written(b"\x9f\xff"), b"\x80")
        self.assertEqual(nodes(b"\x9f\xff"), [(4, 0, None)])

    def test_up_to_the_byte_255(self):
        self.assertEqual(written(b"\x9f\x01\x61a\x9f\xff\xff"), b"\x83\x01\x61a\x80")
        for count in (23, 24, 255, 256, 398):
            form = written(b"\x9f" + bytes(count) + b"\xff")
            self.assertEqual(form, written(b"\x99" + count.to_bytes(2, "big") + bytes(count)))
            self.assertEqual(form[-count:], bytes(count))
        # The one form may have one byte more than what was read.
        self.assertEqual(len(written(b"\x9f" + bytes(398) + b"\xff")), 401)

    def test_order_stays(self):
        self.assertEqual(written(b"\x83\x03\x01\x02"), b"\x83\x03\x01\x02")
        self.assertEqual(written(b"\x82\x01\x01"), b"\x82\x01\x01")

    def test_a_count_takes_no_byte_255(self):
        self.assertEqual(written(b"\x81\xff"), -1)
        self.assertEqual(written(b"\x82\x01\xff"), -1)
        self.assertEqual(written(b"\x9f\x81\xff"), -1)
        self.assertEqual(written(b"\x9f\x81\xff\xff"), -1)

    def test_too_few_and_too_many(self):
        self.assertEqual(written(b"\x82\x01"), -1)
        self.assertEqual(written(b"\x81\x01\x02"), -1)
        self.assertEqual(written(b"\x9f\x01"), -1)
        self.assertEqual(written(b"\x9f\x01\xff\xff"), -1)


class Maps(unittest.TestCase):
    def test_empty(self):
        self.assertEqual(written(b"\xa0"), b"\xa0")
        self.assertEqual(written(b"\xbf\xff"), b"\xa0")
        self.assertEqual(nodes(b"\xbf\xff"), [(5, 0, None)])

    def test_up_to_the_byte_255(self):
        self.assertEqual(written(b"\xbf\x01\x02\x61a\x9f\xff\xff"), b"\xa2\x01\x02\x61a\x80")

    def test_ending_behind_a_key(self):
        self.assertEqual(written(b"\xbf\x01\xff"), -1)
        self.assertEqual(written(b"\xbf\x01\x02\x03\xff"), -1)
        self.assertEqual(written(b"\xbf\x01\xff\xff"), -1)
        self.assertEqual(written(b"\xa1\x01"), -1)
        self.assertEqual(written(b"\xa1\x01\xff"), -1)

    def test_too_few_and_too_many(self):
        self.assertEqual(written(b"\xa2\x01\x02"), -1)
        self.assertEqual(written(b"\xa1\x01\x02\x03\x04"), -1)
        self.assertEqual(written(b"\xbf\x01\x02"), -1)


class Tags(unittest.TestCase):
    def test_meaning_is_not_looked_at(self):
        # A great number, a time, a text with a wrong address: all stay as they are.
        self.assertEqual(written(b"\xc2\x41\x05"), b"\xc2\x41\x05")
        self.assertEqual(written(b"\xc1\xfa\x3f\x80\x00\x00"), b"\xc1\xf9\x3c\x00")
        self.assertEqual(written(b"\xd8\x20\x61:"), b"\xd8\x20\x61:")
        self.assertEqual(written(b"\xc2\x00"), b"\xc2\x00")
        self.assertEqual(written(b"\xd9\xd9\xf7\x00"), b"\xd9\xd9\xf7\x00")

    def test_tags_stay_one_by_one(self):
        self.assertEqual(written(b"\xc1\xc1\x00"), b"\xc1\xc1\x00")
        self.assertEqual(nodes(b"\xc1\xc2\x00"), [(6, 1, None), (6, 2, None), (0, 0, None)])

    def test_a_tag_without_item(self):
        self.assertEqual(written(b"\xc1"), -1)
        self.assertEqual(written(b"\x9f\xc1\xff"), -1)
        self.assertEqual(written(b"\x82\x01\xc1"), -1)


class Depth(unittest.TestCase):
    def test_16_and_17_deep_of_one_sort(self):
        for wrap in WRAPS:
            for inner in (b"\x00", b"\x61a", b"\xf4"):
                data, form = wrapped([wrap] * 16, inner)
                self.assertEqual(written(data), form)
                self.assertEqual(written(wrapped([wrap] * 17, inner)[0]), -1)

    def test_an_empty_one_is_1_deep(self):
        for wrap in WRAPS:
            for empty, form in ((b"\x80", b"\x80"), (b"\x9f\xff", b"\x80"), (b"\xa0", b"\xa0"), (b"\xbf\xff", b"\xa0")):
                self.assertEqual(written(wrapped([wrap] * 15, empty)[0]), wrapped([wrap] * 15, form)[1])
                self.assertEqual(written(wrapped([wrap] * 16, empty)[0]), -1)

    def test_strings_in_parts_are_not_deep(self):
        self.assertEqual(written(b"\x81" * 16 + b"\x5f\x41a\xff"), b"\x81" * 16 + b"\x41a")

    def test_mixed(self):
        mixed = [WRAPS[k % len(WRAPS)] for k in range(17)]
        data, form = wrapped(mixed[:16], b"\x00")
        self.assertEqual(written(data), form)
        self.assertEqual(written(wrapped(mixed, b"\x00")[0]), -1)

    def test_beside_one_another_is_not_deep(self):
        data = b"\x98\x28" + b"\x80" * 40
        self.assertEqual(written(data), data)
        one = b"\x81" * 14 + b"\x80"
        self.assertEqual(written(b"\x82" + one + one), b"\x82" + one + one)
        self.assertEqual(written(b"\x82" + one + b"\x81" + one), -1)

    def test_as_deep_as_the_bytes_go(self):
        for first in (b"\x81", b"\x9f", b"\xc0", b"\xbf", b"\xa1", b"\x5f"):
            self.assertEqual(written(first * 400), -1)
            self.assertEqual(written(first * 399 + b"\x00"), -1)


class GreatLimits(unittest.TestCase):
    """400 bytes don't reach them, so the reader is asked itself."""

    def assert_refused(self, data):
        with self.assertRaises(NotWellFormed):
            one_form(list(data))

    def test_nodes(self):
        self.assertEqual(len(one_form(list(b"\x99\x03\xff" + bytes(1023)))), 1026)
        self.assert_refused(b"\x99\x04\x00" + bytes(1024))
        self.assert_refused(b"\x9f" + bytes(1024) + b"\xff")
        # A key is one, and a value is one.
        keys = b"".join(b"\x19" + key.to_bytes(2, "big") + b"\x00" for key in range(256, 256 + 512))
        self.assertEqual(len(one_form(list(b"\xb9\x01\xff" + keys[:511 * 4]))), 3 + 511 * 4)
        self.assert_refused(b"\xb9\x02\x00" + keys)

    def test_a_string_is_one_node_whatever_its_parts(self):
        self.assertEqual(one_form([95] + [65, 97] * 2000 + [255]), [89, 7, 208] + [97] * 2000)

    def test_bytes_in_strings(self):
        self.assertEqual(len(one_form([89, 32, 0] + [0] * 8192)), 8195)
        self.assert_refused([89, 32, 1] + [0] * 8193)
        self.assert_refused([121, 32, 1] + [0] * 8193)
        half = [89, 16, 0] + [0] * 4096
        self.assertEqual(len(one_form([130] + half + half)), 1 + 2 * 4099)
        self.assert_refused([131] + half + half + [97, 97])
        self.assertEqual(len(one_form([161] + half + half)), 1 + 2 * 4099)
        self.assert_refused([162] + half + half + [97, 97, 0])
        self.assert_refused([95] + half + half + [65, 0, 255])
