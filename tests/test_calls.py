"""The calls as they are handed in and answered: refusals, nodes, and what is kept."""

import contextlib
import io
import unittest

from oneformroom.values import answers
from tests.helper import COPY, COUNT, KIND, NUMBER, READ, WRITE, ask, nodes, read, row

GREATEST = 4294967295
MIXED = b"\xbf\x61b\x9f\x5f\x41x\x41y\xff\x38\x05\xff\x61a\xc5\xfb\x3f\xf8" + bytes(6) + b"\xff"


class Form(unittest.TestCase):
    def test_lists_as_they_stand(self):
        self.assertEqual(answers([READ, 1, 0]), [1, 0])
        self.assertEqual(answers([READ, 0]), [1, -1])
        self.assertEqual(answers([READ, 5, 162, 1, 0, 1, 0]), [1, -2])
        self.assertEqual(answers([WRITE]), [1, -9])
        self.assertEqual(answers([COUNT]), [1, -9])
        self.assertEqual(answers([READ, 2, 24, 5, WRITE]), [1, 0, 3, 0, 1, 5])
        self.assertEqual(answers([READ, 1, 128, COUNT]), [1, 0, 2, 0, 1])
        self.assertEqual(answers([READ, 1, 128, KIND, 0]), [1, 0, 2, 0, 4])
        self.assertEqual(answers([READ, 1, 23, NUMBER, 0]), [1, 0, 2, 0, 23])
        self.assertEqual(answers([READ, 3, 66, 7, 8, COPY, 0]), [1, 0, 4, 0, 2, 7, 8])
        self.assertEqual(answers([READ, 1, 64, COPY, 0]), [1, 0, 2, 0, 0])
        self.assertEqual(answers([READ, 1, 0, COPY, 0]), [1, 0, 1, -2])
        self.assertEqual(answers([READ, 1, 0, KIND, 1, NUMBER, 1, COPY, 1]), [1, 0, 1, -1, 1, -1, 1, -1])

    def test_the_same_call_many_times(self):
        self.assertEqual(ask(read(b"\x05"), *[[WRITE]] * 15), [[0]] + [[0, 1, 5]] * 15)

    def test_rows_of_400(self):
        data = b"\x59\x01\x8d" + bytes(range(256)) + bytes(141)
        self.assertEqual(len(data), 400)
        self.assertEqual(ask(read(data), [WRITE], [COPY, 0]), [[0], row(data), row(data[3:])])

    def test_great_numbers_are_answered_whole(self):
        self.assertEqual(ask(read(b"\x1b" + b"\xff" * 8), [NUMBER, 0]), [[0], [0, 2 ** 64 - 1]])
        self.assertEqual(ask(read(b"\xdb" + b"\xff" * 8 + b"\x00"), [NUMBER, 0]), [[0], [0, 2 ** 64 - 1]])


class Refusals(unittest.TestCase):
    def test_no_value(self):
        for call in ([WRITE], [COUNT], [KIND, 0], [NUMBER, 0], [COPY, 0], [KIND, GREATEST], [NUMBER, GREATEST],
                     [COPY, GREATEST]):
            self.assertEqual(ask(call), [[-9]])

    def test_no_value_yet_then_one(self):
        self.assertEqual(ask([KIND, 7], [COPY, 1], [WRITE], [NUMBER, 2], read(b"\x05"), [WRITE]),
                         [[-9], [-9], [-9], [-9], [0], [0, 1, 5]])

    def test_no_value_after_refused_reads(self):
        self.assertEqual(ask(read(b""), [WRITE], read(b"\xa2\x01\x00\x01\x00"), [COUNT], [KIND, 0], [COPY, 9]),
                         [[-1], [-9], [-2], [-9], [-9], [-9]])

    def test_a_refused_read_changes_nothing(self):
        for wrong, refusal in ((b"", -1), (b"\x18", -1), (b"\x82\x01", -1), (b"\x01\x01", -1), (b"\xff", -1),
                               (b"\xa2\x01\x00\x01\x00", -2), (b"\x81" * 17 + b"\x00", -1)):
            told = ask(read(b"\x82\x61a\x07"), read(wrong), [WRITE], [COUNT], [KIND, 1], [NUMBER, 2], [COPY, 1])
            self.assertEqual(told, [[0], [refusal], row(b"\x82\x61a\x07"), [0, 3], [0, 3], [0, 7], row(b"a")])

    def test_refused_questions_change_nothing(self):
        told = ask(read(b"\x81\x07"), [KIND, 2], [NUMBER, GREATEST], [COPY, 0], [COPY, 2], [WRITE], [COUNT])
        self.assertEqual(told, [[0], [-1], [-1], [-2], [-1], row(b"\x81\x07"), [0, 2]])

    def test_a_new_value_takes_the_place_of_the_old(self):
        told = ask(read(b"\x83\x01\x02\x03"), [COUNT], read(b"\x41a"), [WRITE], [COUNT], [KIND, 0], [COPY, 0], [KIND, 1])
        self.assertEqual(told, [[0], [0, 4], [0], row(b"\x41a"), [0, 1], [0, 2], row(b"a"), [-1]])


class Nodes(unittest.TestCase):
    def test_numbered_as_they_begin_in_the_one_form(self):
        self.assertEqual(nodes(MIXED), [
            (5, 2, None), (3, 1, b"a"), (6, 5, None), (8, 0x3e00, None),
            (3, 1, b"b"), (4, 2, None), (2, 2, b"xy"), (1, 5, None)])

    def test_at_and_past_the_count(self):
        for data, count in ((b"\x00", 1), (b"\x80", 1), (b"\x5f\x41a\x41b\xff", 1), (b"\x82\x01\x02", 3),
                            (b"\xa1\x01\x02", 3), (b"\xc1\x02", 2), (MIXED, 8), (b"\x9f" + bytes(398) + b"\xff", 399)):
            self.assertEqual(ask(read(data), [COUNT])[1], [0, count])
            for call in (KIND, NUMBER, COPY):
                told = ask(read(data), [call, count - 1], [call, count], [call, count + 1], [call, GREATEST])
                self.assertNotEqual(told[1], [-1])
                self.assertEqual(told[2:], [[-1], [-1], [-1]])

    def test_every_kind(self):
        data = b"\x8b\x05\x25\x42ab\x62cd\x81\x00\xa1\x00\x00\xc6\x00\xf6\xf9\x3c\x00\xfa\x47\xc3\x50\x00\xfb\x3f\xf1" \
               + b"\x99" * 5 + b"\x9a"
        self.assertEqual(nodes(data), [
            (4, 11, None), (0, 5, None), (1, 5, None), (2, 2, b"ab"), (3, 2, b"cd"), (4, 1, None), (0, 0, None),
            (5, 1, None), (0, 0, None), (0, 0, None), (6, 6, None), (0, 0, None), (7, 22, None), (8, 0x3c00, None),
            (9, 0x47c35000, None), (10, 0x3ff199999999999a, None)])

    def test_copy_of_what_is_no_string(self):
        for data in (b"\x00", b"\x20", b"\x80", b"\x81\x41a", b"\xa0", b"\xc1\x41a", b"\xf4", b"\xf8\x20", b"\xf9\x00\x00",
                     b"\xfa\x47\xc3\x50\x00", b"\xfb\x3f\xf1" + b"\x99" * 6):
            self.assertEqual(ask(read(data), [COPY, 0])[1], [-2])

    def test_copy_of_strings_whose_bytes_look_like_heads(self):
        data = b"\x84\x43\x81\x9f\xff\x5f\x41\x5f\x41\xff\xff\x01\x62\x7f\x60"
        self.assertEqual(nodes(data), [(4, 4, None), (2, 3, b"\x81\x9f\xff"), (2, 2, b"\x5f\xff"), (0, 1, None),
                                       (3, 2, b"\x7f\x60")])

    def test_long_strings(self):
        for length in (23, 24, 255, 256, 390):
            content = bytes(k % 128 for k in range(length))
            for major in (2, 3):
                data = bytes([129, 32 * major + 27]) + length.to_bytes(8, "big") + content
                told = ask(read(data), [COUNT], [KIND, 1], [NUMBER, 1], [COPY, 1], [COPY, 2])
                self.assertEqual(told, [[0], [0, 2], [0, major], [0, length], row(content), [-1]])


class Kept(unittest.TestCase):
    CALLS = [number for call in (read(MIXED), [WRITE], [COUNT], [KIND, 3], [COPY, 1], read(b"\x01\x01"), [NUMBER, 3],
                                 [COPY, 99]) for number in call]

    def test_the_list_is_as_it_was(self):
        calls = list(self.CALLS)
        answers(calls)
        self.assertEqual(calls, self.CALLS)

    def test_the_list_is_not_changed_for_a_while_either(self):
        class Watched(list):
            def refuse(self, *words):
                raise AssertionError("changed")

            append = extend = insert = pop = remove = clear = sort = reverse = refuse
            __setitem__ = __delitem__ = __iadd__ = __imul__ = refuse

        self.assertEqual(answers(Watched(self.CALLS)), answers(list(self.CALLS)))

    def test_twice_the_same(self):
        calls = list(self.CALLS)
        first = answers(calls)
        second = answers(calls)
        self.assertEqual(first, second)
        # What is given back is the caller's: changing it changes no later answer.
        first.clear()
        self.assertEqual(answers(calls), second)

    def test_nothing_is_kept_for_the_next_time(self):
        answers(list(self.CALLS))
        self.assertEqual(ask([WRITE], [COUNT], [KIND, 0]), [[-9], [-9], [-9]])

    def test_nothing_is_printed(self):
        out = io.StringIO()
        with contextlib.redirect_stdout(out), contextlib.redirect_stderr(out):
            answers(list(self.CALLS))
        self.assertEqual(out.getvalue(), "")
