"""Steps 8 to 10: what is left of a quarter as 13 pulses on a grid, and back."""

from pulsevoice.measures import QUARTER
from pulsevoice.sums import low_bits, plus, product, rounded_product, stopped

PULSES = 13
GRIDS = 4
SPACING = 3

# The document's H, R and F.
WEIGHTS = (-134, -374, 0, 2054, 5741, 8192, 5741, 2054, 0, -374, -134)
SHRINKS = (29128, 26215, 23832, 21846, 20165, 18725, 17476, 16384)
GROWTHS = (18431, 20479, 22527, 24575, 26623, 28671, 30719, 32767)


def weighed(rest):
    """x of step 8: each of the 40 with its neighbours, none being outside."""
    padded = [0] * 5 + rest + [0] * 5
    return [weighed_one(padded[place:place + len(WEIGHTS)]) for place in range(QUARTER)]


def weighed_one(window):
    total = sum([value * weight for value, weight in zip(window, WEIGHTS)])
    return stopped((4096 + total) >> 13)


def on_grid(values, grid):
    """The 13 of the 40 that lie on the grid."""
    return values[grid:grid + SPACING * PULSES:SPACING]


def energy(values):
    return sum([(value >> 2) * (value >> 2) for value in values])


def best_grid(values):
    """The first grid with the greatest energy."""
    energies = [energy(on_grid(values, grid)) for grid in range(GRIDS)]
    return energies.index(max(energies))


def size_code(greatest):
    shift = len([bits for bits in range(9, 15) if greatest >> bits > 0])
    return (greatest >> (shift + 5)) + 8 * shift


def exponent_and_mantissa(code):
    """e and t of a size's code."""
    exponent = 0
    if code > 15:
        exponent = (code >> 3) - 1
    mantissa = code - 8 * exponent
    if mantissa == 0:
        return (-4, 7)
    while mantissa <= 7:
        mantissa = 2 * mantissa + 1
        exponent -= 1
    return (exponent, mantissa - 8)


def pulse_codes(values, code):
    """The 13 pulses' codes of the values on the grid, by the size's code."""
    parts = exponent_and_mantissa(code)
    shift = 6 - parts[0]
    shrink = SHRINKS[parts[1]]
    return [(product(low_bits(value << shift), shrink) >> 12) + 4 for value in values]


def pulse_values(codes, code):
    """The 13 pulses' codes as numbers again, by the size's code."""
    parts = exponent_and_mantissa(code)
    shift = 6 - parts[0]
    growth = GROWTHS[parts[1]]
    # Half of the divisor to come; with no shift there is nothing to round.
    half = (1 << shift) >> 1
    return [plus(rounded_product(growth, 4096 * (2 * pulse - 7)), half) >> shift for pulse in codes]


def spread(values, grid):
    """The 40 of a quarter: the 13 values on their grid, 0 between them."""
    out = [0] * QUARTER
    for place, value in enumerate(values):
        out[grid + SPACING * place] = value
    return out


def rebuilt(awaited, grid, code, pulses):
    """The quarter that a decoder hears too: the pulses on their grid, with the forecast."""
    spread_out = spread(pulse_values(pulses, code), grid)
    return [plus(pulse, value) for pulse, value in zip(spread_out, awaited)]
