"""The calls as they are handed in and answered: refusals, nodes, and what is kept."""

import contextlib
import io
import unittest

from oneformroom.values import answers
from tests.helper import (AFTER, COPY, COUNT, KIND, MOST_CALLS, NUMBER, PART, READ, WRITE, ask, canonical, find, model,
                          nodes, read, row, same)

GREATEST = 4294967295
MIXED = b"\xbf\x61b\x9f\x5f\x41x\x41y\xff\x38\x05\xff\x61a\xc5\xfb\x3f\xf8" + bytes(6) + b"\xff"


class Form(unittest.TestCase):
    def test_lists_as_they_stand(self):
        self.assertEqual(answers([READ, 1, 0]), [1, 0])
        self.assertEqual(answers([READ, 0]), [1, -1])
        self.assertEqual(answers([READ, 5, 162, 1, 0, 1, 0]), [1, -2])
        self.assertEqual(answers([WRITE]), [1, -9])
        self.assertEqual(answers([COUNT]), [1, -9])
        self.assertEqual(answers([READ, 2, 24, 5, WRITE]), [1, 0, 3, 0, 1, 5])
        self.assertEqual(answers([READ, 1, 128, COUNT]), [1, 0, 2, 0, 1])
        self.assertEqual(answers([READ, 1, 128, KIND, 0]), [1, 0, 2, 0, 4])
        self.assertEqual(answers([READ, 1, 23, NUMBER, 0]), [1, 0, 2, 0, 23])
        self.assertEqual(answers([READ, 3, 66, 7, 8, COPY, 0]), [1, 0, 4, 0, 2, 7, 8])
        self.assertEqual(answers([READ, 1, 64, COPY, 0]), [1, 0, 2, 0, 0])
        self.assertEqual(answers([READ, 1, 0, COPY, 0]), [1, 0, 1, -2])
        self.assertEqual(answers([READ, 1, 0, KIND, 1, NUMBER, 1, COPY, 1]), [1, 0, 1, -1, 1, -1, 1, -1])

    def test_the_same_call_many_times(self):
        self.assertEqual(ask(read(b"\x05"), *[[WRITE]] * 15), [[0]] + [[0, 1, 5]] * 15)

    def test_rows_of_400(self):
        data = b"\x59\x01\x8d" + bytes(range(256)) + bytes(141)
        self.assertEqual(len(data), 400)
        self.assertEqual(ask(read(data), [WRITE], [COPY, 0]), [[0], row(data), row(data[3:])])

    def test_great_numbers_are_answered_whole(self):
        self.assertEqual(ask(read(b"\x1b" + b"\xff" * 8), [NUMBER, 0]), [[0], [0, 2 ** 64 - 1]])
        self.assertEqual(ask(read(b"\xdb" + b"\xff" * 8 + b"\x00"), [NUMBER, 0]), [[0], [0, 2 ** 64 - 1]])


class Refusals(unittest.TestCase):
    def test_no_value(self):
        for call in ([WRITE], [COUNT], [KIND, 0], [NUMBER, 0], [COPY, 0], [AFTER, 0], [PART, 0], find(0, b"\x01"),
                     find(GREATEST, b""), same(b"\x01"), same(b""), [KIND, GREATEST], [NUMBER, GREATEST],
                     [COPY, GREATEST], [AFTER, GREATEST], [PART, GREATEST]):
            self.assertEqual(ask(call), [[-9]])
            self.assertEqual(ask(read(b"\xff"), call, canonical(b"\x01"), call), [[-1], [-9], [0, 1], [-9]])

    def test_no_value_yet_then_one(self):
        self.assertEqual(ask([KIND, 7], [COPY, 1], [WRITE], [NUMBER, 2], read(b"\x05"), [WRITE]),
                         [[-9], [-9], [-9], [-9], [0], [0, 1, 5]])

    def test_no_value_after_refused_reads(self):
        self.assertEqual(ask(read(b""), [WRITE], read(b"\xa2\x01\x00\x01\x00"), [COUNT], [KIND, 0], [COPY, 9]),
                         [[-1], [-9], [-2], [-9], [-9], [-9]])

    def test_a_refused_read_changes_nothing(self):
        for wrong, refusal in ((b"", -1), (b"\x18", -1), (b"\x82\x01", -1), (b"\x01\x01", -1), (b"\xff", -1),
                               (b"\xa2\x01\x00\x01\x00", -2), (b"\x81" * 17 + b"\x00", -1)):
            told = ask(read(b"\x82\x61a\x07"), read(wrong), [WRITE], [COUNT], [KIND, 1], [NUMBER, 2], [COPY, 1])
            self.assertEqual(told, [[0], [refusal], row(b"\x82\x61a\x07"), [0, 3], [0, 3], [0, 7], row(b"a")])

    def test_refused_questions_change_nothing(self):
        told = ask(read(b"\x81\x07"), [KIND, 2], [NUMBER, GREATEST], [COPY, 0], [COPY, 2], [WRITE], [COUNT])
        self.assertEqual(told, [[0], [-1], [-1], [-2], [-1], row(b"\x81\x07"), [0, 2]])

    def test_a_new_value_takes_the_place_of_the_old(self):
        told = ask(read(b"\x83\x01\x02\x03"), [COUNT], read(b"\x41a"), [WRITE], [COUNT], [KIND, 0], [COPY, 0], [KIND, 1])
        self.assertEqual(told, [[0], [0, 4], [0], row(b"\x41a"), [0, 1], [0, 2], row(b"a"), [-1]])


class AllCalls(unittest.TestCase):
    FORM = b"\xa2\x61a\xc5\xf9\x3e\x00\x61b\x82\x42xy\x25"
    # All eleven, each with its answer about MIXED.
    ALL = (
        (read(MIXED), [0]), ([WRITE], row(FORM)), ([COUNT], [0, 8]), ([KIND, 3], [0, 8]), ([NUMBER, 3], [0, 0x3e00]),
        ([COPY, 6], row(b"xy")), ([AFTER, 2], [0, 4]), ([PART, 5], row(b"\x82\x42xy\x25")), (find(0, b"\x61b"), [0, 5]),
        (same(FORM), [0, 1]), (canonical(MIXED), [0, 0]),
    )
    REFUSED = (
        (read(b""), [-1]), (read(b"\xa2\x01\x00\x01\x00"), [-2]), ([KIND, 8], [-1]), ([NUMBER, 8], [-1]),
        ([COPY, 8], [-1]), ([COPY, 0], [-2]), ([AFTER, 8], [-1]), ([PART, GREATEST], [-1]), (find(8, b"\x61b"), [-1]),
        (find(1, b"\x61b"), [-2]), (find(0, b"\x61c"), [-3]), (same(b"\xff"), [-1]),
        (same(b"\xa2\x01\x00\x01\x00"), [-2]), (canonical(b"\xff"), [0, 0]),
    )

    def check(self, both):
        self.assertEqual(ask(*[call for call, _ in both]), [expected for _, expected in both])

    def test_one_behind_another(self):
        self.check(self.ALL)
        for turn in range(1, 11):
            self.check(self.ALL[:1] + self.ALL[turn:] + self.ALL[1:turn])
        self.check(self.ALL[:1] + self.ALL[:0:-1])

    def test_as_one_list(self):
        calls = [1, 4, 161, 7, 65, 9, 2, 3, 4, 0, 5, 0, 6, 2, 7, 1, 8, 2, 9, 0, 1, 7, 10, 1, 0, 11, 1, 0]
        self.assertEqual(answers(calls), [
            1, 0, 6, 0, 4, 161, 7, 65, 9, 2, 0, 3, 2, 0, 5, 2, 0, 1, 3, 0, 1, 9, 2, 0, 2, 4, 0, 2, 65, 9, 2, 0, 2, 2, 0, 0,
            2, 0, 1])

    def test_refused_ones_among_them_change_nothing(self):
        for one in self.REFUSED:
            # Ahead of each of the others in turn, and behind all of them.
            for at in range(1, 12):
                self.check(self.ALL[:at] + (one,) + self.ALL[at:])
            self.check(self.ALL[:1] + (one, one, one) + self.ALL[1:])
        for at in range(10):
            self.check(self.ALL[:1] + self.REFUSED[at:at + 5] + self.ALL[1:])

    def test_before_there_is_a_value(self):
        none_yet = tuple((call, [-9]) for call, _ in self.ALL[1:10])
        self.check(none_yet + self.ALL[10:] + self.ALL[:1] + self.ALL[6:10])


class SixteenCalls(unittest.TestCase):
    """As many calls as there may be, with as many bytes as there may be."""
    KEY = b"\x79\x01\x89" + b"k" * 393
    ROWS = (
        b"\x59\x01\x8d" + bytes(397), b"\x99\x01\x8d" + bytes(397), b"\x9f" + bytes(398) + b"\xff", bytes(400),
        b"\x81" * 400, b"\x9f" * 400, b"\xbf" * 400, b"\xc1" * 400, b"\x5f" + b"\x40" * 398 + b"\xff",
        b"\x7f" + b"\x61a" * 199 + b"\xff", b"\xa1" + KEY + b"\x19\x01\x00",
        b"\x9f" + b"\xbf\xff" * 199 + b"\xff",
        b"\xbf" + b"".join(bytes([25, 1, key, 0]) for key in range(98, -1, -1)) + b"\x00\x00\xff",
        b"\xbf" + bytes(398) + b"\xff", b"\x9f" * 15 + b"\xa0" * 370 + b"\xff" * 15,
    )

    def test_rows(self):
        for data in self.ROWS:
            self.assertEqual(len(data), 400)
            form, _ = model(data)
            refusal = [form] if form in (-1, -2) else [0]
            is_form = [0, 1 if form == data else 0]
            self.assertEqual(ask(*[read(data)] * MOST_CALLS), [refusal] * MOST_CALLS)
            self.assertEqual(ask(*[canonical(data)] * MOST_CALLS), [is_form] * MOST_CALLS)
            told = ask(read(data), *[same(data)] * (MOST_CALLS - 1))
            self.assertEqual(told, [refusal] + ([[0, 1]] if refusal == [0] else [[-9]]) * (MOST_CALLS - 1))

    def test_long_answers(self):
        data = self.ROWS[2]
        form, _ = model(data)
        self.assertEqual(ask(read(data), *[[PART, 0]] * 15), [[0]] + [row(form)] * 15)

    def test_long_keys(self):
        data = b"\xa1" + self.KEY + b"\x00"
        told = ask(read(data), find(0, self.KEY), *[find(0, self.KEY + b"kkkk")] * 14)
        self.assertEqual(told, [[0], [0, 2]] + [[-3]] * 14)


class Nodes(unittest.TestCase):
    def test_numbered_as_they_begin_in_the_one_form(self):
        self.assertEqual(nodes(MIXED), [
            (5, 2, None), (3, 1, b"a"), (6, 5, None), (8, 0x3e00, None),
            (3, 1, b"b"), (4, 2, None), (2, 2, b"xy"), (1, 5, None)])

    def test_at_and_past_the_count(self):
        for data, count in ((b"\x00", 1), (b"\x80", 1), (b"\x5f\x41a\x41b\xff", 1), (b"\x82\x01\x02", 3),
                            (b"\xa1\x01\x02", 3), (b"\xc1\x02", 2), (MIXED, 8), (b"\x9f" + bytes(398) + b"\xff", 399)):
            self.assertEqual(ask(read(data), [COUNT])[1], [0, count])
            for call in (KIND, NUMBER, COPY):
                told = ask(read(data), [call, count - 1], [call, count], [call, count + 1], [call, GREATEST])
                self.assertNotEqual(told[1], [-1])
                self.assertEqual(told[2:], [[-1], [-1], [-1]])

    def test_every_kind(self):
        data = b"\x8b\x05\x25\x42ab\x62cd\x81\x00\xa1\x00\x00\xc6\x00\xf6\xf9\x3c\x00\xfa\x47\xc3\x50\x00\xfb\x3f\xf1" \
               + b"\x99" * 5 + b"\x9a"
        self.assertEqual(nodes(data), [
            (4, 11, None), (0, 5, None), (1, 5, None), (2, 2, b"ab"), (3, 2, b"cd"), (4, 1, None), (0, 0, None),
            (5, 1, None), (0, 0, None), (0, 0, None), (6, 6, None), (0, 0, None), (7, 22, None), (8, 0x3c00, None),
            (9, 0x47c35000, None), (10, 0x3ff199999999999a, None)])

    def test_copy_of_what_is_no_string(self):
        for data in (b"\x00", b"\x20", b"\x80", b"\x81\x41a", b"\xa0", b"\xc1\x41a", b"\xf4", b"\xf8\x20", b"\xf9\x00\x00",
                     b"\xfa\x47\xc3\x50\x00", b"\xfb\x3f\xf1" + b"\x99" * 6):
            self.assertEqual(ask(read(data), [COPY, 0])[1], [-2])

    def test_copy_of_strings_whose_bytes_look_like_heads(self):
        data = b"\x84\x43\x81\x9f\xff\x5f\x41\x5f\x41\xff\xff\x01\x62\x7f\x60"
        self.assertEqual(nodes(data), [(4, 4, None), (2, 3, b"\x81\x9f\xff"), (2, 2, b"\x5f\xff"), (0, 1, None),
                                       (3, 2, b"\x7f\x60")])

    def test_long_strings(self):
        for length in (23, 24, 255, 256, 390):
            content = bytes(k % 128 for k in range(length))
            for major in (2, 3):
                data = bytes([129, 32 * major + 27]) + length.to_bytes(8, "big") + content
                told = ask(read(data), [COUNT], [KIND, 1], [NUMBER, 1], [COPY, 1], [COPY, 2])
                self.assertEqual(told, [[0], [0, 2], [0, major], [0, length], row(content), [-1]])


class Kept(unittest.TestCase):
    CALLS = [number for call in (canonical(MIXED), read(MIXED), [WRITE], [COUNT], [KIND, 3], [COPY, 1], read(b"\x01\x01"),
                                 [NUMBER, 3], [COPY, 99], [AFTER, 2], [PART, 5], find(0, b"\x61b"), find(0, b"\x61c"),
                                 same(MIXED), same(b"\xa2\x01\x00\x01\x00"), canonical(b"\x82\x01\x02"))
             for number in call]

    def test_the_list_is_as_it_was(self):
        calls = list(self.CALLS)
        answers(calls)
        self.assertEqual(calls, self.CALLS)

    def test_the_list_is_not_changed_for_a_while_either(self):
        class Watched(list):
            def refuse(self, *words):
                raise AssertionError("changed")

            append = extend = insert = pop = remove = clear = sort = reverse = refuse
            __setitem__ = __delitem__ = __iadd__ = __imul__ = refuse

        self.assertEqual(answers(Watched(self.CALLS)), answers(list(self.CALLS)))

    def test_twice_the_same(self):
        calls = list(self.CALLS)
        first = answers(calls)
        second = answers(calls)
        self.assertEqual(first, second)
        # What is given back is the caller's: changing it changes no later answer.
        first.clear()
        self.assertEqual(answers(calls), second)

    def test_nothing_is_kept_for_the_next_time(self):
        answers(list(self.CALLS))
        self.assertEqual(ask([WRITE], [COUNT], [KIND, 0], [AFTER, 0], [PART, 0], find(0, b"\x61b"), same(MIXED)),
                         [[-9]] * 7)

    def test_nothing_is_printed(self):
        out = io.StringIO()
        with contextlib.redirect_stdout(out), contextlib.redirect_stderr(out):
            answers(list(self.CALLS))
        self.assertEqual(out.getvalue(), "")
