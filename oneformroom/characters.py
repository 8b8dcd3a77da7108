"""Whether bytes are UTF-8."""

# The smallest character that needs so many bytes: a smaller one isn't in its shortest form.
SMALLEST = (0, 0, 128, 2048, 65536)
GREATEST = 1114111
FIRST_SURROGATE = 55296
LAST_SURROGATE = 57343


def is_utf8(row):
    at = 0
    while at < len(row):
        length = character_length(row[at])
        if length == 0 or at + length > len(row):
            return False
        if not is_character(row[at:at + length]):
            return False
        at += length
    return True


# 0 where no character begins with this byte.
def character_length(first):
    if first < 128:
        return 1
    if 192 <= first < 224:
        return 2
    if 224 <= first < 240:
        return 3
    if 240 <= first < 248:
        return 4
    return 0


def is_character(row):
    length = len(row)
    if length == 1:
        return True
    # The first byte gives what's left of its 8 bits behind as many ones as there are bytes, and a zero.
    code = row[0] % (1 << (7 - length))
    for byte in row[1:]:
        if byte // 64 != 2:
            return False
        code = code * 64 + byte % 64
    if FIRST_SURROGATE <= code <= LAST_SURROGATE:
        return False
    return SMALLEST[length] <= code <= GREATEST
