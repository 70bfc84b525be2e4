"""The document's numbers: 16 bits with their sign, and the sums and products over them."""

LOWEST = -32768
HIGHEST = 32767
LOWEST_LONG = -2147483648
HIGHEST_LONG = 2147483647


def stopped(value):
    """The value, stopped at 16 bits."""
    if value > HIGHEST:
        return HIGHEST
    if value < LOWEST:
        return LOWEST
    return value


def stopped_long(value):
    """The value, stopped at 32 bits."""
    if value > HIGHEST_LONG:
        return HIGHEST_LONG
    if value < LOWEST_LONG:
        return LOWEST_LONG
    return value


def low_bits(value):
    """The lowest 16 bits of the value, taken with their sign."""
    return ((value + 32768) & 65535) - 32768


def plus(first, second):
    return stopped(first + second)


def minus(first, second):
    return stopped(first - second)


def rounded_product(first, second):
    return stopped((first * second + 16384) >> 15)


def product(first, second):
    return stopped((first * second) >> 15)


def size(value):
    """|value|, where |-32768| is 32767."""
    return stopped(abs(value))


def greatest_size(values):
    return max([size(value) for value in values])


def with_sign_of(value, magnitude):
    if value < 0:
        return -magnitude
    return magnitude


def doublings(value):
    """How often a value of 32 bits, not 0, can be doubled with its sign kept."""
    if value < 0:
        return 31 - (~value).bit_length()
    return 31 - value.bit_length()


def headroom_shift(values, bits):
    """How far the values go down so that this many bits stay free above the greatest; 0 where they are free already."""
    greatest = greatest_size(values)
    if greatest == 0:
        return 0
    return max(0, bits - doublings(65536 * greatest))
