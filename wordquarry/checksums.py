"""Check sums: rows of bits divided by a row of 33 bits; what is left is the sum."""

# x ** 32 leaves these bits, the last eight of the divisor.
DIVISOR = 141
LOW_BITS = 2 ** 24 - 1
TOP_BIT = 2 ** 31
ALL_BITS = 2 ** 32 - 1


def check_of(row):
    """The check sum of a row of bytes."""
    left = DIVISOR
    for byte in row:
        top = (left >> 24) ^ byte
        # the divisor has the bits 0, 2, 3 and 7, so top times it stays below 2 ** 15
        left = ((left & LOW_BITS) << 8) ^ top ^ (top << 2) ^ (top << 3) ^ (top << 7)
    return left


def joined_check(one, two, many):
    """The check sum of two rows, one behind the other, from theirs and the bytes of the second."""
    # The bit 1 ahead is within both sums: that of the second one is taken away again,
    # where it stands ahead of so many bytes and the 32 bits behind them.
    return product_of(one ^ DIVISOR, power_of_byte(many)) ^ two


def power_of_byte(many):
    """What x ** (8 * many) leaves."""
    result = 1
    factor = 256
    while many > 0:
        if many & 1 == 1:
            result = product_of(result, factor)
        factor = product_of(factor, factor)
        many >>= 1
    return result


def product_of(one, two):
    """What the product of two rows of up to 32 bits leaves."""
    result = 0
    while two > 0:
        if two & 1 == 1:
            result ^= one
        two >>= 1
        if one & TOP_BIT == 0:
            one <<= 1
        else:
            one = ((one << 1) & ALL_BITS) ^ DIVISOR
    return result
