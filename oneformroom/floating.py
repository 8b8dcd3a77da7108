"""Floating numbers in the shortest format that says just the same, reckoned on their bits alone."""

from oneformroom.heads import SIMPLE, wide_head

HALF = 25
# By the head's info: 25 a half, 26 a single, 27 a double.
EXPONENT_BITS = {25: 5, 26: 8, 27: 11}
FRACTION_BITS = {25: 10, 26: 23, 27: 52}
# A format's smallest step is 2 to the power of -24, -149, -1074; in the double's steps, 2 to the power of these.
STEP_POWER = {25: 1050, 26: 925, 27: 0}
NO_NUMBER = (249, 126, 0)


def shortest_floating(info, bits):
    if is_no_number(info, bits):
        return list(NO_NUMBER)
    # A half's numbers are all a single's, and a single's a double's: so one step at a time misses none.
    while info > HALF:
        narrower = narrowed(info, bits)
        if narrower is None:
            break
        bits = narrower
        info -= 1
    return wide_head(SIMPLE, info, bits)


def sign_of(info, bits):
    return bits >> (EXPONENT_BITS[info] + FRACTION_BITS[info])


def exponent_of(info, bits):
    return (bits >> FRACTION_BITS[info]) % (1 << EXPONENT_BITS[info])


def fraction_of(info, bits):
    return bits % (1 << FRACTION_BITS[info])


def top_exponent(info):
    return (1 << EXPONENT_BITS[info]) - 1


def is_infinite(info, bits):
    return exponent_of(info, bits) == top_exponent(info) and fraction_of(info, bits) == 0


def is_no_number(info, bits):
    return exponent_of(info, bits) == top_exponent(info) and fraction_of(info, bits) != 0


# None where the next shorter format can't say just the same.
def narrowed(info, bits):
    shorter = info - 1
    if is_infinite(info, bits):
        size = top_exponent(shorter) << FRACTION_BITS[shorter]
    else:
        size = size_bits(shorter, steps(info, bits))
    if size is None:
        return None
    sign = sign_of(info, bits)
    return (sign << (EXPONENT_BITS[shorter] + FRACTION_BITS[shorter])) + size


# The number without its sign, counted in the double's smallest steps, so that it is whole in every format.
def steps(info, bits):
    exponent = exponent_of(info, bits)
    fraction = fraction_of(info, bits)
    if exponent == 0:
        return fraction << STEP_POWER[info]
    return (fraction + (1 << FRACTION_BITS[info])) << (exponent - 1 + STEP_POWER[info])


# The bits, but for the sign, of so many steps in this format; None where it can't say just that.
def size_bits(info, count):
    if count % (1 << STEP_POWER[info]) != 0:
        return None
    own_steps = count >> STEP_POWER[info]
    fraction_bits = FRACTION_BITS[info]
    exponent = own_steps.bit_length() - fraction_bits
    if exponent <= 0:
        return own_steps
    if exponent >= top_exponent(info):
        return None
    if own_steps % (1 << (exponent - 1)) != 0:
        return None
    fraction = (own_steps >> (exponent - 1)) - (1 << fraction_bits)
    return (exponent << fraction_bits) + fraction
