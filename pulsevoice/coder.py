"""Coding: 160 samples become the 33 bytes of a frame."""

from pulsevoice.forecast import forecast, lag_and_gain
from pulsevoice.front import Front
from pulsevoice.lattice import Flattener
from pulsevoice.measures import LONGEST_LAG, ORDER, QUARTER
from pulsevoice.packing import packed
from pulsevoice.pulses import best_grid, on_grid, pulse_codes, rebuilt, size_code, weighed
from pulsevoice.reflections import lifted, likenesses, lowered, reflections, scale_shift
from pulsevoice.spectrum import codes_of, filters, numbers_of
from pulsevoice.sums import greatest_size, minus


class Coder:
    """What coding keeps from one frame to the following one."""

    def __init__(self):
        self.front = Front()
        self.flattener = Flattener()
        self.spectrum = [0] * ORDER
        self.past = [0] * LONGEST_LAG

    def frame_of(self, samples):
        raised = self.front.raised(samples)
        shift = scale_shift(raised)
        small = lowered(raised, shift)
        codes = codes_of(reflections(likenesses(small)))
        residual = self.residual_of(lifted(small, shift), codes)
        for start in range(0, len(residual), QUARTER):
            codes.extend(self.quarter_codes(residual[start:start + QUARTER]))
        return packed(codes)

    def residual_of(self, samples, codes):
        """d of the 160 samples: coding filters by the codes, as these are all that a decoder has."""
        now = numbers_of(codes)
        factors = filters(self.spectrum, now)
        self.spectrum = now
        return self.flattener.flat(samples, factors)

    def quarter_codes(self, residual):
        """The 17 codes of a quarter of d."""
        found = lag_and_gain(residual, self.past)
        awaited = forecast(self.past, found[0], found[1])
        values = weighed([minus(value, guess) for value, guess in zip(residual, awaited)])
        grid = best_grid(values)
        chosen = on_grid(values, grid)
        code = size_code(greatest_size(chosen))
        pulses = pulse_codes(chosen, code)
        self.past = self.past[QUARTER:] + rebuilt(awaited, grid, code, pulses)
        return [found[0], found[1], grid, code] + pulses
