"""Coding, steps 4 and 5: the reflections as eight codes, and those codes as the numbers of a filter."""

from pulsevoice.sums import minus, plus, product, rounded_product, size, with_sign_of

# The document's A, B, L and I, one for each of the eight.
SCALES = (20480, 20480, 20480, 20480, 13964, 15360, 8534, 9036)
OFFSETS = (0, 0, 2048, -2560, 94, -1792, -341, -1144)
LOWEST_CODES = (-32, -32, -16, -16, -8, -8, -4, -4)
INVERSES = (13107, 13107, 13107, 13107, 19223, 17476, 31454, 29708)

# Each stretch of samples that one filter serves: its first sample and the one behind its last.
STRETCHES = ((0, 13), (13, 27), (27, 40), (40, 160))


def bent(turn):
    """A reflection on the scale that is coded, finer towards the ends."""
    span = size(turn)
    if span < 22118:
        return with_sign_of(turn, span >> 1)
    if span < 31130:
        return with_sign_of(turn, span - 11059)
    return with_sign_of(turn, 4 * (span - 26112))


def unbent(value):
    """A number of the spectrum as a filter's number: bent, backwards."""
    span = size(value)
    if span < 11059:
        return with_sign_of(value, 2 * span)
    if span < 20070:
        return with_sign_of(value, span + 11059)
    return with_sign_of(value, plus(span >> 2, 26112))


def code_of(place, value):
    lowest = LOWEST_CODES[place]
    scaled = plus(plus(product(SCALES[place], value), OFFSETS[place]), 256)
    return min(max((scaled >> 9) - lowest, 0), -2 * lowest - 1)


def codes_of(turns):
    return [code_of(place, bent(turn)) for place, turn in enumerate(turns)]


def number_of(place, code):
    raised = minus(1024 * (code + LOWEST_CODES[place]), 2 * OFFSETS[place])
    half = rounded_product(INVERSES[place], raised)
    return plus(half, half)


def numbers_of(codes):
    return [number_of(place, code) for place, code in enumerate(codes)]


def mostly(main, other):
    """Three quarters of main and one of other; each is cut by itself, so this is not one quotient."""
    return plus(plus(main >> 2, other >> 2), main >> 1)


def between(before, now):
    """The four spectra, one for each stretch, that lead from the one before to this one."""
    return [
        [mostly(old, new) for old, new in zip(before, now)],
        [plus(old >> 1, new >> 1) for old, new in zip(before, now)],
        [mostly(new, old) for old, new in zip(before, now)],
        list(now),
    ]


def factors_of(spectrum):
    return [unbent(value) for value in spectrum]


def filters(before, now):
    """f_1 to f_8 of each stretch."""
    return [factors_of(spectrum) for spectrum in between(before, now)]
