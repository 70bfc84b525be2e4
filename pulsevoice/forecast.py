"""Coding, step 7: what the last samples let one await of a quarter, by a lag and a gain."""

from pulsevoice.measures import LONGEST_LAG, QUARTER, SHORTEST_LAG
from pulsevoice.sums import doublings, headroom_shift, product, rounded_product

HEADROOM = 6

# The document's G, and the bounds between its gains.
GAINS = (3277, 11469, 21299, 32767)
GAIN_BOUNDS = (6554, 16384, 26214)


def at_lag(past, lag):
    """The 40 of the last 120 that lie lag before the quarter to come."""
    start = LONGEST_LAG - lag
    return past[start:start + QUARTER]


def resemblance(quarter, past, lag):
    return sum([now * before for now, before in zip(quarter, at_lag(past, lag))])


def best_lag(quarter, past):
    """The first lag with the greatest resemblance, where that is above 0; else 40."""
    found = SHORTEST_LAG
    greatest = 0
    for lag in range(SHORTEST_LAG, LONGEST_LAG + 1):
        value = resemblance(quarter, past, lag)
        if value > greatest:
            found = lag
            greatest = value
    return found


def gain_code(fit, power):
    """The gain's code of the document's M and P."""
    if fit <= 0:
        return 0
    if fit >= power:
        return 3
    shift = doublings(power)
    share = (fit << shift) >> 16
    whole = (power << shift) >> 16
    for code, bound in enumerate(GAIN_BOUNDS):
        if share <= product(whole, bound):
            return code
    return 3


def lag_and_gain(residual, past):
    """The codes of lag and gain for a quarter of d, by the last 120 of d'."""
    shift = headroom_shift(residual, HEADROOM)
    lowered = [value >> shift for value in residual]
    lag = best_lag(lowered, past)
    # Where no sum is above 0 the lag is 40 all the same, but its sum counts as 0.
    fit = 2 * max(0, resemblance(lowered, past, lag)) >> (HEADROOM - shift)
    power = 2 * sum([(value >> 3) * (value >> 3) for value in at_lag(past, lag)])
    return (lag, gain_code(fit, power))


def forecast(past, lag, gain):
    return [rounded_product(GAINS[gain], value) for value in at_lag(past, lag)]
