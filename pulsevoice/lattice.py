"""The filter of eight steps: step 6 of coding takes the voice's shape away, decoding lays it on again."""

from pulsevoice.measures import ORDER
from pulsevoice.spectrum import STRETCHES
from pulsevoice.sums import minus, plus, rounded_product


class Flattener:
    """Step 6, with u."""

    def __init__(self):
        self.delayed = [0] * ORDER

    def flat(self, samples, factors):
        """d of all 160 samples, by the four filters' factors."""
        out = []
        for stretch, row in zip(STRETCHES, factors):
            out.extend([self.flat_one(sample, row) for sample in samples[stretch[0]:stretch[1]]])
        return out

    def flat_one(self, sample, row):
        delayed = []
        straight = sample
        passing = sample
        for factor, kept in zip(row, self.delayed):
            delayed.append(passing)
            passing = plus(kept, rounded_product(factor, straight))
            straight = plus(straight, rounded_product(factor, kept))
        self.delayed = delayed
        return straight


class Shaper:
    """The filter of decoding, with v."""

    def __init__(self):
        self.delayed = [0] * (ORDER + 1)

    def shaped(self, samples, factors):
        out = []
        for stretch, row in zip(STRETCHES, factors):
            out.extend([self.shaped_one(sample, row) for sample in samples[stretch[0]:stretch[1]]])
        return out

    def shaped_one(self, sample, row):
        for step in range(ORDER - 1, -1, -1):
            kept = self.delayed[step]
            sample = minus(sample, rounded_product(row[step], kept))
            self.delayed[step + 1] = plus(kept, rounded_product(row[step], sample))
        self.delayed[0] = sample
        return sample
