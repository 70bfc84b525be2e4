"""Coding, step 1: the samples without their steady part, the high tones raised."""

from pulsevoice.sums import minus, plus, rounded_product, stopped_long


class Front:
    """What step 1 keeps from one sample to the following one."""

    def __init__(self):
        self.last_halved = 0
        self.steady_free = 0
        self.last_rounded = 0

    def raised(self, samples):
        return [self.raised_one(sample) for sample in samples]

    def raised_one(self, sample):
        halved = (sample >> 3) * 4
        change = minus(halved, self.last_halved)
        self.last_halved = halved
        self.steady_free = faded(self.steady_free, change)
        echo = rounded_product(self.last_rounded, -28180)
        self.last_rounded = stopped_long(self.steady_free + 16384) >> 15
        return plus(self.last_rounded, echo)


def faded(kept, change):
    """The kept number of 32 bits, a little smaller, with the change on it."""
    high = kept >> 15
    low = kept - 32768 * high
    return stopped_long(32735 * high + 32768 * change + rounded_product(low, 32735))
