"""Decoding: the 33 bytes of a frame become 160 samples."""

from pulsevoice.forecast import forecast
from pulsevoice.lattice import Shaper
from pulsevoice.measures import LONGEST_LAG, ORDER, QUARTER, SHORTEST_LAG
from pulsevoice.packing import quarter_parts, spectrum_part, unpacked
from pulsevoice.pulses import rebuilt
from pulsevoice.spectrum import filters, numbers_of
from pulsevoice.sums import plus, rounded_product


class Decoder:
    """What decoding keeps from one frame to the following one."""

    def __init__(self):
        self.shaper = Shaper()
        self.spectrum = [0] * ORDER
        self.past = [0] * LONGEST_LAG
        self.lag = SHORTEST_LAG
        self.last_deep = 0

    def samples_of(self, data):
        codes = unpacked(data)
        now = numbers_of(spectrum_part(codes))
        factors = filters(self.spectrum, now)
        self.spectrum = now
        residual = []
        for quarter in quarter_parts(codes):
            residual.extend(self.residual_of(quarter))
        return [self.deepened(sample) for sample in self.shaper.shaped(residual, factors)]

    def residual_of(self, quarter):
        """The 40 samples of a quarter's 17 codes, ahead of the filter."""
        if SHORTEST_LAG <= quarter[0] <= LONGEST_LAG:
            self.lag = quarter[0]
        awaited = forecast(self.past, self.lag, quarter[1])
        samples = rebuilt(awaited, quarter[2], quarter[3], quarter[4:])
        self.past = self.past[QUARTER:] + samples
        return samples

    def deepened(self, sample):
        """The sample with the high tones lowered again, and without the three bits that coding never saw."""
        self.last_deep = plus(sample, rounded_product(self.last_deep, 28180))
        return plus(self.last_deep, self.last_deep) & -8
