"""Find: what a map has is found by its key's one form, and by nothing else."""

import unittest

from oneformroom.values import answers
from tests.helper import COUNT, PART, WRITE, ask, ask_of, canonical, find, read, row, same, written

GREATEST = 4294967295
# A key's one form, and the same key written in other ways.
KEYS = (
    (b"\x01", b"\x18\x01", b"\x19\x00\x01", b"\x1b" + bytes(7) + b"\x01"),
    (b"\x18\x64", b"\x19\x00\x64", b"\x1a\x00\x00\x00\x64"),
    (b"\x20", b"\x38\x00"),
    (b"\x42ab", b"\x58\x02ab", b"\x5f\x41a\x41b\xff", b"\x5f\x42ab\xff"),
    (b"\x40", b"\x5f\xff", b"\x58\x00"),
    (b"\x62ab", b"\x78\x02ab", b"\x7f\x61a\x61b\xff"),
    (b"\x60", b"\x7f\xff", b"\x78\x00"),
    (b"\x80", b"\x9f\xff", b"\x98\x00"),
    (b"\x82\x01\x02", b"\x9f\x01\x02\xff", b"\x82\x18\x01\x02"),
    (b"\xa0", b"\xbf\xff", b"\xb8\x00"),
    (b"\xa2\x01\x02\x03\x04", b"\xa2\x03\x04\x01\x02", b"\xbf\x01\x02\x03\x04\xff"),
    (b"\xc1\x05", b"\xd8\x01\x05", b"\xc1\x18\x05"),
    (b"\xf4",),
    (b"\xf8\x20",),
    (b"\xf9\x3c\x00", b"\xfa\x3f\x80\x00\x00", b"\xfb\x3f\xf0" + bytes(6)),
    (b"\xf9\x80\x00", b"\xfa\x80\x00\x00\x00", b"\xfb\x80" + bytes(7)),
    (b"\xf9\x7c\x00", b"\xfa\x7f\x80\x00\x00", b"\xfb\x7f\xf0" + bytes(6)),
    (b"\xf9\x7e\x00", b"\xf9\x7c\x01", b"\xfa\x7f\xc0\x00\x00", b"\xfb\x7f\xf8" + bytes(6)),
    (b"\xfa\x47\xc3\x50\x00", b"\xfb\x40\xf8\x6a" + bytes(5)),
    (b"\xfb\x3f\xf1" + b"\x99" * 5 + b"\x9a",),
)


def found(data, i, key):
    """The one number that's answered: a node or a refusal."""
    told = ask_of(data, [find(i, key)])[0]
    return told[-1] if told[0] == 0 and len(told) == 2 or told[0] < 0 and len(told) == 1 else told


class AsTheyStand(unittest.TestCase):
    def test_lists(self):
        self.assertEqual(answers([1, 3, 161, 7, 8, 9, 0, 1, 7]), [1, 0, 2, 0, 2])
        self.assertEqual(answers([1, 3, 161, 7, 8, 9, 0, 1, 8]), [1, 0, 1, -3])
        self.assertEqual(answers([1, 3, 161, 7, 8, 9, 1, 1, 7]), [1, 0, 1, -2])
        self.assertEqual(answers([1, 3, 161, 7, 8, 9, 3, 1, 7]), [1, 0, 1, -1])
        self.assertEqual(answers([1, 3, 161, 7, 8, 9, 0, 0, 3]), [1, 0, 1, -3, 2, 0, 3])
        self.assertEqual(answers([9, 0, 1, 7, 9, 5, 0, 3]), [1, -9, 1, -9, 1, -9])


class Found(unittest.TestCase):
    def test_each_key_alone(self):
        for form, *others in KEYS:
            for way in (form, *others):
                data = b"\xa1" + way + b"\x61v"
                node = ask(read(data), [COUNT])[1][1] - 1
                self.assertEqual(found(data, 0, form), node, data.hex())
                # However the key was read, only its one form finds it.
                for other in others:
                    self.assertEqual(found(data, 0, other), -3, (data.hex(), other.hex()))

    def test_all_keys_in_one_map(self):
        pairs = b"".join(ways[-1] + bytes([24, 100 + k]) for k, ways in enumerate(KEYS))
        data = b"\xbf" + pairs + b"\xff"
        for k, (form, *others) in enumerate(KEYS):
            node = found(data, 0, form)
            self.assertEqual(ask(read(data), [PART, node])[1], row(bytes([24, 100 + k])), form.hex())
            for other in others:
                self.assertEqual(found(data, 0, other), -3, other.hex())

    def test_first_middle_and_last(self):
        data = b"\xa3\x61c\xf6\x61a\x82\x01\x02\x61b\xa1\x61d\x00"
        self.assertEqual(written(data), b"\xa3\x61a\x82\x01\x02\x61b\xa1\x61d\x00\x61c\xf6")
        self.assertEqual([found(data, 0, key) for key in (b"\x61a", b"\x61b", b"\x61c", b"\x61d")], [2, 6, 10, -3])

    def test_the_value_may_be_anything(self):
        for value in (b"\x05", b"\x25", b"\x41a", b"\x61a", b"\x80", b"\xa0", b"\x82\x01\x02", b"\xa1\x01\x02", b"\xc1\x02",
                      b"\xf4", b"\xf9\x00\x00"):
            data = b"\xa2\x82\x08\x09" + value + b"\x01" + value
            first = found(data, 0, b"\x01")
            second = found(data, 0, b"\x82\x08\x09")
            self.assertEqual(ask(read(data), [PART, first], [PART, second])[1:], [row(value), row(value)])
            self.assertLess(first, second)

    def test_long_keys(self):
        key = b"\x79\x01\x89" + b"k" * 393
        data = b"\xa1" + key + b"\x00"
        self.assertEqual(len(data), 398)
        self.assertEqual(found(data, 0, key), 2)
        self.assertEqual(found(data, 0, key + b"k"), -3)
        self.assertEqual(found(data, 0, key[:-1]), -3)
        self.assertEqual(found(data, 0, key[:-1] + b"l"), -3)
        self.assertEqual(found(data, 0, b"\x59" + key[1:]), -3)
        self.assertEqual(found(data, 0, b"\x00" * 400), -3)

    def test_many_keys(self):
        keys = [bytes([24, key]) for key in range(24, 150)]
        data = b"\xbf" + b"".join(key + b"\x07" for key in reversed(keys)) + b"\xff"
        told = ask_of(data, [find(0, key) for key in keys])
        self.assertEqual(told, [[0, 2 * k + 2] for k in range(126)])
        self.assertEqual(found(data, 0, bytes([24, 150])), -3)
        self.assertEqual(found(data, 0, bytes([23])), -3)

    def test_keys_that_look_alike(self):
        alike = (b"\x00", b"\x20", b"\x40", b"\x60", b"\x80", b"\xa0", b"\xe0", b"\xf9\x00\x00", b"\xf9\x80\x00", b"\x41a",
                 b"\x61a", b"\x81\x00", b"\xc0\x00", b"\xc1\x00", b"\xf4", b"\xf5", b"\x62\xc3\xa9", b"\x63e\xcc\x81")
        for own in alike:
            for other in alike:
                data = b"\xa1" + own + b"\xf6"
                node = ask(read(data), [COUNT])[1][1] - 1
                self.assertEqual(found(data, 0, other), node if own == other else -3)


class MapsWithin(unittest.TestCase):
    # {"a": {"b": {"c": 1}}, "d": [{"e": 2}]}
    NESTED = b"\xa2\x61a\xa1\x61b\xa1\x61c\x01\x61d\x81\xa1\x61e\x02"

    def test_a_key_only_further_below(self):
        # 0 map, 1 "a", 2 map, 3 "b", 4 map, 5 "c", 6, 7 "d", 8 array, 9 map, 10 "e", 11.
        keys = (b"\x61a", b"\x61b", b"\x61c", b"\x61d", b"\x61e")
        for i, expected in ((0, [2, -3, -3, 8, -3]), (2, [-3, 4, -3, -3, -3]), (4, [-3, -3, 6, -3, -3]),
                            (9, [-3, -3, -3, -3, 11]), (8, [-2] * 5), (1, [-2] * 5), (12, [-1] * 5)):
            self.assertEqual([found(self.NESTED, i, key) for key in keys], expected)

    def test_the_same_key_at_each_depth(self):
        data = b"\xa1\x05" * 16 + b"\x06"
        for i in range(16):
            self.assertEqual(found(data, 2 * i, b"\x05"), 2 * i + 2)
            self.assertEqual(found(data, 2 * i, b"\x06"), -3)
        self.assertEqual(found(data, 32, b"\x05"), -2)
        self.assertEqual(found(data, 33, b"\x05"), -1)

    def test_a_map_that_is_a_key(self):
        data = b"\xa2\xa1\x01\x02\x03\x01\x04"
        # 0 map, 1 the key 1, 2 its 4, 3 the key {1: 2}, 4 and 5 in it, 6 its 3.
        self.assertEqual(found(data, 0, b"\x01"), 2)
        self.assertEqual(found(data, 0, b"\xa1\x01\x02"), 6)
        self.assertEqual(found(data, 3, b"\x01"), 5)
        self.assertEqual(found(data, 3, b"\x02"), -3)
        self.assertEqual(found(data, 0, b"\x02"), -3)

    def test_a_key_only_within_a_key(self):
        data = b"\xa1\x82\x01\xa1\x05\x06\x07"
        self.assertEqual(found(data, 0, b"\x01"), -3)
        self.assertEqual(found(data, 0, b"\x05"), -3)
        self.assertEqual(found(data, 0, b"\xa1\x05\x06"), -3)
        self.assertEqual(found(data, 3, b"\x05"), 5)

    def test_a_key_of_a_map_behind_it(self):
        data = b"\x82\xa1\x01\x02\xa1\x03\x04"
        self.assertEqual([found(data, 1, b"\x01"), found(data, 1, b"\x03")], [3, -3])
        self.assertEqual([found(data, 4, b"\x01"), found(data, 4, b"\x03")], [-3, 6])
        data = b"\x82\xa0\xa1\x03\x04"
        self.assertEqual([found(data, 1, b"\x03"), found(data, 2, b"\x03")], [-3, 4])

    def test_in_a_tag_and_in_an_array(self):
        self.assertEqual(found(b"\xc1\xa1\x01\x02", 0, b"\x01"), -2)
        self.assertEqual(found(b"\xc1\xa1\x01\x02", 1, b"\x01"), 3)
        self.assertEqual(found(b"\x81\xa1\x01\x02", 0, b"\x01"), -2)
        self.assertEqual(found(b"\x81\xa1\x01\x02", 1, b"\x01"), 3)


class NotFound(unittest.TestCase):
    def test_the_bytes_of_a_value(self):
        self.assertEqual(found(b"\xa1\x01\x02", 0, b"\x02"), -3)
        self.assertEqual(found(b"\xa2\x01\x61a\x02\x61b", 0, b"\x61a"), -3)
        self.assertEqual(found(b"\xa1\x01\x82\x03\x04", 0, b"\x82\x03\x04"), -3)
        # A key that's a value elsewhere in the map.
        self.assertEqual(found(b"\xa2\x01\x02\x02\x01", 0, b"\x01"), 2)
        self.assertEqual(found(b"\xa2\x01\x02\x02\x01", 0, b"\x02"), 4)

    def test_a_beginning_of_a_key_and_bytes_behind_it(self):
        for form, *_ in KEYS:
            data = b"\xa1" + form + b"\x00"
            for length in range(len(form)):
                self.assertEqual(found(data, 0, form[:length]), -3)
            for behind in (b"\x00", b"\xff", form):
                self.assertEqual(found(data, 0, form + behind), -3)

    def test_the_whole_pair_and_the_whole_map(self):
        data = b"\xa2\x01\x02\x03\x04"
        for row_of in (b"\x01\x02", b"\x01\x02\x03", b"\x02\x03", b"\x01\x02\x03\x04", data):
            self.assertEqual(found(data, 0, row_of), -3)

    def test_no_bytes_at_all(self):
        for data in (b"\xa0", b"\xa1\x01\x02", b"\xa1\x40\x00", b"\xa1\x60\x00", b"\xa1\x80\x00", b"\xa1\xa0\x00",
                     b"\xa1\xf6\x00"):
            self.assertEqual(found(data, 0, b""), -3)

    def test_an_empty_map(self):
        for data in (b"\xa0", b"\xbf\xff", b"\xb8\x00"):
            for key in (b"", b"\x00", b"\xa0", b"\x60"):
                self.assertEqual(found(data, 0, key), -3)

    def test_the_content_of_a_string_key(self):
        self.assertEqual(found(b"\xa1\x62ab\x00", 0, b"ab"), -3)
        self.assertEqual(found(b"\xa1\x41\x05\x00", 0, b"\x05"), -3)

    def test_bytes_that_are_no_item(self):
        for key in (b"\xff", b"\x1c", b"\x62a", b"\x61\xff", b"\x81" * 17 + b"\x00", b"\xa2\x01\x00\x01\x00", b"\xf8\x00"):
            self.assertEqual(found(b"\xa1\x01\x02", 0, key), -3)


class Refused(unittest.TestCase):
    def test_not_a_map(self):
        for data in (b"\x00", b"\x20", b"\x40", b"\x41a", b"\x60", b"\x61a", b"\x80", b"\x82\x01\x02", b"\x81\xa1\x01\x02",
                     b"\xc1\x01", b"\xc5\xa1\x01\x02", b"\xf4", b"\xe5", b"\xf8\x20", b"\xf9\x00\x05",
                     b"\xfa\x47\xc3\x50\x00", b"\xfb\x3f\xf1" + b"\x99" * 6):
            for key in (b"\x01", b"", b"\xff"):
                self.assertEqual(found(data, 0, key), -2)

    def test_no_such_node(self):
        for data, count in ((b"\x00", 1), (b"\xa0", 1), (b"\xa1\x01\x02", 3), (b"\xa1\x01\xa1\x01\x02", 5)):
            for i in (count, count + 1, GREATEST):
                for key in (b"\x01", b"", b"\xff"):
                    self.assertEqual(found(data, i, key), -1)

    def test_no_value(self):
        for i in (0, 1, GREATEST):
            for key in (b"", b"\x01", b"\xff"):
                self.assertEqual(ask(find(i, key)), [[-9]])
                self.assertEqual(ask(read(b"\xa2\x01\x00\x01\x00"), find(i, key)), [[-2], [-9]])
                self.assertEqual(ask(canonical(b"\xa1\x01\x02"), find(i, key)), [[0, 1], [-9]])
                self.assertEqual(ask(same(b"\xa1\x01\x02"), find(i, key)), [[-9], [-9]])

    def test_which_of_several(self):
        # No value, no node, not a map, no key: in this order.
        wrong_key = b"\x09"
        self.assertEqual(ask(find(99, wrong_key), read(b"\xa1\x01\x02"), find(99, wrong_key), find(1, wrong_key),
                             find(0, wrong_key), find(0, b"\x01")), [[-9], [0], [-1], [-2], [-3], [0, 2]])

    def test_changes_nothing(self):
        data = b"\xa1\x01\x02"
        told = ask(read(data), find(3, b"\x01"), find(1, b"\x01"), find(0, b"\x02"), find(0, b"\x01"), [WRITE], [COUNT])
        self.assertEqual(told, [[0], [-1], [-2], [-3], [0, 2], row(data), [0, 3]])
