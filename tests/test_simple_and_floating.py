"""Simple values, and floating numbers in the shortest format that says just the same."""

import struct
import unittest

from tests.helper import model_write_floating, nodes, written

NO_NUMBER = bytes([249, 126, 0])


def half(bits):
    return b"\xf9" + bits.to_bytes(2, "big")


def single(bits):
    return b"\xfa" + bits.to_bytes(4, "big")


def double(bits):
    return b"\xfb" + bits.to_bytes(8, "big")


def double_of(value):
    return b"\xfb" + struct.pack(">d", value)


def single_of(value):
    return b"\xfa" + struct.pack(">f", value)


class SimpleValues(unittest.TestCase):
    def test_below_24(self):
        for number in range(24):
            self.assertEqual(written([224 + number]), bytes([224 + number]))
            self.assertEqual(nodes([224 + number]), [(7, number, None)])

    def test_behind_24(self):
        for number in range(32, 256):
            self.assertEqual(written([248, number]), bytes([248, number]))
            self.assertEqual(nodes([248, number]), [(7, number, None)])

    def test_behind_24_below_32(self):
        for number in range(32):
            self.assertEqual(written([248, number]), -1)
            self.assertEqual(written([129, 248, number]), -1)

    def test_false_and_true_are_no_numbers(self):
        self.assertEqual(nodes([130, 244, 245]), [(4, 2, None), (7, 20, None), (7, 21, None)])


class Halves(unittest.TestCase):
    def test_every_half_from_each_format(self):
        for bits in range(65536):
            value, = struct.unpack(">e", bits.to_bytes(2, "big"))
            if value != value:
                self.assertEqual(written(half(bits)), NO_NUMBER)
                continue
            self.assertEqual(written(half(bits)), half(bits))
            self.assertEqual(written(single_of(value)), half(bits))
            self.assertEqual(written(double_of(value)), half(bits))

    def test_zeros(self):
        for plus in (half(0), single(0), double(0)):
            self.assertEqual(written(plus), bytes([249, 0, 0]))
        for minus in (half(1 << 15), single(1 << 31), double(1 << 63)):
            self.assertEqual(written(minus), bytes([249, 128, 0]))

    def test_infinities_are_halves(self):
        for plus in (half(0x7c00), single(0x7f800000), double(0x7ff << 52)):
            self.assertEqual(written(plus), bytes([249, 124, 0]))
        for minus in (half(0xfc00), single(0xff800000), double(0xfff << 52)):
            self.assertEqual(written(minus), bytes([249, 252, 0]))

    def test_no_number(self):
        for bits in (0x7c01, 0x7e00, 0x7e01, 0x7dff, 0x7fff, 0xfc01, 0xfe00, 0xffff):
            self.assertEqual(written(half(bits)), NO_NUMBER)
        for bits in (0x7f800001, 0x7fc00000, 0x7fffffff, 0xff800001, 0xffc00000, 0xffffffff, 0x7fa00000):
            self.assertEqual(written(single(bits)), NO_NUMBER)
        for bits in (0x7ff0000000000001, 0x7ff8000000000000, 0x7fffffffffffffff, 0xfff0000000000001,
                     0xfff8000000000000, 0xffffffffffffffff, 0x7ff4000000000000):
            self.assertEqual(written(double(bits)), NO_NUMBER)
            self.assertEqual(nodes(double(bits)), [(8, 0x7e00, None)])

    def test_greatest_and_smallest(self):
        self.assertEqual(written(double_of(65504.0)), half(0x7bff))
        self.assertEqual(written(double_of(2.0 ** -14)), half(0x0400))
        self.assertEqual(written(double_of(2.0 ** -24)), half(0x0001))
        self.assertEqual(written(double_of(2.0 ** -14 - 2.0 ** -24)), half(0x03ff))
        self.assertEqual(written(single_of(-65504.0)), half(0xfbff))
        self.assertEqual(written(single_of(-2.0 ** -24)), half(0x8001))


class Singles(unittest.TestCase):
    def test_just_not_a_half(self):
        for value in (65505.0, 65520.0, 65536.0, 2.0 ** -25, 2.0 ** -24 + 2.0 ** -25, 2.0 ** -14 + 2.0 ** -25,
                      1.0 + 2.0 ** -11, 2049.0, 2.0 ** -23 + 2.0 ** -25, 3.0 * 2.0 ** -25, 65504.0 + 16.0):
            for signed in (value, -value):
                self.assertEqual(written(double_of(signed)), single_of(signed))
                self.assertEqual(written(single_of(signed)), single_of(signed))
        self.assertEqual(written(double_of(2048.0)), half(0x6800))
        self.assertEqual(written(double_of(1.0 + 2.0 ** -10)), half(0x3c01))

    def test_greatest_and_smallest(self):
        for bits in (0x7f7fffff, 0x00800000, 0x007fffff, 0x00000001, 0x00400000, 0xff7fffff, 0x80000001):
            value, = struct.unpack(">f", bits.to_bytes(4, "big"))
            self.assertEqual(written(single(bits)), single(bits))
            self.assertEqual(written(double_of(value)), single(bits))
            self.assertEqual(nodes(double_of(value)), [(9, bits, None)])


class Doubles(unittest.TestCase):
    def test_just_not_a_single(self):
        greatest_single, = struct.unpack(">f", b"\x7f\x7f\xff\xff")
        for value in (0.1, 1.1, 2.0 ** 128, greatest_single + 2.0 ** 75, 2.0 ** -150, 2.0 ** -149 + 2.0 ** -150,
                      2.0 ** -126 + 2.0 ** -150, 1.0 + 2.0 ** -24, 1.0 + 2.0 ** -52, 16777217.0, 1e300, 1e-300):
            for signed in (value, -value):
                self.assertEqual(written(double_of(signed)), double_of(signed))
        self.assertEqual(written(double_of(1.0 + 2.0 ** -23)), single_of(1.0 + 2.0 ** -23))
        self.assertEqual(written(double_of(16777216.0)), single_of(16777216.0))

    def test_greatest_and_smallest(self):
        for bits in (0x7fefffffffffffff, 0x0010000000000000, 0x000fffffffffffff, 0x0000000000000001,
                     0x0008000000000000, 0xffefffffffffffff, 0x8000000000000001):
            self.assertEqual(written(double(bits)), double(bits))
            self.assertEqual(nodes(double(bits)), [(10, bits, None)])

    def test_every_exponent_with_telling_fractions(self):
        fractions = (0, 1, 1 << 28, 1 << 29, 1 << 30, 1 << 41, 1 << 42, 1 << 43, 1 << 51, (1 << 52) - 1,
                     (1 << 52) - (1 << 29), (1 << 52) - (1 << 42), (1 << 52) - (1 << 28), (1 << 52) - (1 << 41))
        for exponent in range(2047):
            for fraction in fractions:
                for sign in (0, 1):
                    bits = sign << 63 | exponent << 52 | fraction
                    self.assertEqual(written(double(bits)), model_write_floating(bits.to_bytes(8, "big")))

    def test_every_single_exponent_with_telling_fractions(self):
        fractions = (0, 1, 1 << 12, 1 << 13, 1 << 14, 1 << 22, (1 << 23) - 1, (1 << 23) - (1 << 13),
                     (1 << 23) - (1 << 12))
        for exponent in range(255):
            for fraction in fractions:
                for sign in (0, 1):
                    bits = sign << 31 | exponent << 23 | fraction
                    value, = struct.unpack(">f", bits.to_bytes(4, "big"))
                    self.assertEqual(written(single(bits)), model_write_floating(struct.pack(">d", value)))


class NotWhole(unittest.TestCase):
    def test_whole_and_floating_are_never_turned_into_one_another(self):
        self.assertEqual(written(double_of(1.0)), bytes([249, 60, 0]))
        self.assertEqual(written([1]), bytes([1]))
        self.assertEqual(written(double_of(-1.0)), bytes([249, 188, 0]))
        self.assertEqual(written(b"\xa2\x01\x00" + double_of(1.0) + b"\x00"), b"\xa2\x01\x00\xf9\x3c\x00\x00")
        self.assertEqual(written(double_of(1e10))[0], 250)

    def test_kinds_as_they_stand_in_the_one_form(self):
        self.assertEqual(nodes(double_of(1.5)), [(8, 0x3e00, None)])
        self.assertEqual(nodes(single_of(1.5)), [(8, 0x3e00, None)])
        self.assertEqual(nodes(double_of(100000.0)), [(9, 0x47c35000, None)])
        self.assertEqual(nodes(double_of(1.1)), [(10, 0x3ff199999999999a, None)])
