"""Coding, steps 7 to 11, by hand."""

import unittest

from pulsevoice import forecast, packing, pulses
from tests.helper import WIDTHS, codes_in, frame_of, noise


class StepSeven(unittest.TestCase):
    def test_what_lies_at_a_lag(self):
        past = list(range(120))
        self.assertEqual(forecast.at_lag(past, 40), list(range(80, 120)))
        self.assertEqual(forecast.at_lag(past, 41), list(range(79, 119)))
        self.assertEqual(forecast.at_lag(past, 120), list(range(40)))

    def test_first_greatest_lag(self):
        self.assertEqual(forecast.best_lag([5] * 40, [100] * 120), 40)
        round_of_40 = noise(40, 500, 1)
        self.assertEqual(forecast.best_lag(round_of_40, round_of_40 * 3), 40)
        self.assertEqual(forecast.best_lag(round_of_40, round_of_40 * 2 + [0] * 40), 80)
        self.assertEqual(forecast.best_lag(round_of_40, round_of_40 + [0] * 80), 120)

    def test_each_lag_is_found(self):
        for lag in range(40, 121):
            past = [0] * 120
            past[120 - lag] = 1000
            self.assertEqual(forecast.best_lag([9] + [0] * 39, past), lag)

    def test_the_smallest_sum_above_0(self):
        past = [0] * 120
        past[50] = 1
        self.assertEqual(forecast.best_lag([1] + [0] * 39, past), 70)

    def test_nothing_above_0(self):
        self.assertEqual(forecast.lag_and_gain([100] * 40, [0] * 120), (40, 0))
        self.assertEqual(forecast.lag_and_gain([100] * 40, [-700] * 120), (40, 0))
        self.assertEqual(forecast.lag_and_gain([0] * 40, [700] * 120), (40, 0))

    def test_gain_0_and_3(self):
        self.assertEqual(forecast.gain_code(0, 0), 0)
        self.assertEqual(forecast.gain_code(0, 50), 0)
        self.assertEqual(forecast.gain_code(-4, 50), 0)
        self.assertEqual(forecast.gain_code(50, 50), 3)
        self.assertEqual(forecast.gain_code(51, 50), 3)
        self.assertEqual(forecast.gain_code(1, 0), 3)

    def test_gain_bounds(self):
        for share, code in ((1, 0), (3277, 0), (3278, 1), (8192, 1), (8193, 2), (13107, 2), (13108, 3), (16383, 3)):
            self.assertEqual(forecast.gain_code(share << 16, 2 ** 30), code)
            self.assertEqual(forecast.gain_code(share << 10, 2 ** 24), code)

    def test_gain_bounds_are_cut(self):
        for share, code in ((6553, 0), (6554, 1), (16383, 1), (16384, 2), (26213, 2), (26214, 3)):
            self.assertEqual(forecast.gain_code(share << 16, 32767 << 16), code)

    def test_gain_of_a_quarter(self):
        past = [800] * 120
        for value, code in ((100, 0), (200, 1), (500, 2), (790, 3), (900, 3)):
            self.assertEqual(forecast.lag_and_gain([value] * 40, past), (40, code))

    def test_loud_quarter(self):
        self.assertEqual(forecast.lag_and_gain([-32768] * 40, [-32768] * 120), (40, 3))
        self.assertEqual(forecast.lag_and_gain([-32768] * 40, [32767] * 120), (40, 0))
        self.assertEqual(forecast.lag_and_gain([-16384] * 40, [-32768] * 120), (40, 1))

    def test_scaled_sum_goes_downwards(self):
        # k is 1: w is 256 and 256, not 257 for the odd one.
        past = [0] * 80 + [8, 8] + [0] * 38
        self.assertEqual(forecast.lag_and_gain([513, 513] + [0] * 38, past), (40, 3))

    def test_forecast(self):
        past = [10, -10, 32767, -32768] * 30
        self.assertEqual(forecast.forecast(past, 40, 0)[:4], [1, -1, 3277, -3277])
        self.assertEqual(forecast.forecast(past, 120, 1)[:4], [4, -4, 11469, -11469])
        self.assertEqual(forecast.forecast(past, 120, 2)[:4], [6, -6, 21298, -21299])
        self.assertEqual(forecast.forecast(past, 41, 3)[:4], [-32767, 10, -10, 32766])


class StepEight(unittest.TestCase):
    def test_weights(self):
        rest = [0] * 40
        rest[20] = 8192
        self.assertEqual(pulses.weighed(rest)[15:26], [-134, -374, 0, 2054, 5741, 8192, 5741, 2054, 0, -374, -134])
        self.assertEqual(pulses.weighed(rest)[:15] + pulses.weighed(rest)[26:], [0] * 29)

    def test_none_is_outside(self):
        self.assertEqual(pulses.weighed([8192] + [0] * 39)[:7], [8192, 5741, 2054, 0, -374, -134, 0])
        self.assertEqual(pulses.weighed([0] * 39 + [8192])[-7:], [0, -134, -374, 0, 2054, 5741, 8192])

    def test_rounds_and_stops(self):
        self.assertEqual(pulses.weighed([0] * 20 + [1] + [0] * 19)[19:22], [1, 1, 1])
        self.assertEqual(pulses.weighed([32767] * 40)[20], 32767)
        self.assertEqual(pulses.weighed([-32768] * 40)[20], -32768)

    def test_just_below_the_half(self):
        # 5741 times this lies one below a half, so it is not yet rounded up.
        value = 4095 * pow(5741, -1, 8192) % 8192
        self.assertEqual(value * 5741 % 8192, 4095)
        weighed = pulses.weighed([0] * 20 + [value] + [0] * 19)
        self.assertEqual((weighed[19], weighed[21]), (value * 5741 // 8192,) * 2)

    def test_first_greatest_grid(self):
        self.assertEqual(pulses.best_grid([0] * 40), 0)
        self.assertEqual(pulses.best_grid([9] * 40), 0)
        for grid in range(4):
            values = [0] * 40
            values[grid + 36] = 50
            self.assertEqual(pulses.best_grid(values), grid)
        self.assertEqual(pulses.best_grid([0, 50, 50] + [0] * 37), 1)
        self.assertEqual(pulses.best_grid([0] * 3 + [50] + [0] * 36), 0)

    def test_quarter_of_a_value_goes_downwards(self):
        self.assertEqual(pulses.best_grid([3, -1, 3] + [0] * 37), 1)
        self.assertEqual(pulses.best_grid([4, -4, -5] + [0] * 37), 2)

    def test_on_grid(self):
        self.assertEqual(pulses.on_grid(list(range(40)), 0), list(range(0, 37, 3)))
        self.assertEqual(pulses.on_grid(list(range(40)), 3), list(range(3, 40, 3)))

    def test_sizes(self):
        known = ((0, 0), (31, 0), (32, 1), (511, 15), (512, 16), (1023, 23), (1024, 24), (2047, 31), (2048, 32),
                 (4095, 39), (4096, 40), (8191, 47), (8192, 48), (16383, 55), (16384, 56), (32767, 63))
        for greatest, code in known:
            self.assertEqual(pulses.size_code(greatest), code)


class Tables(unittest.TestCase):
    def test_as_the_document_has_them(self):
        self.assertEqual(forecast.GAINS, (3277, 11469, 21299, 32767))
        self.assertEqual(pulses.SHRINKS, (29128, 26215, 23832, 21846, 20165, 18725, 17476, 16384))
        self.assertEqual(pulses.GROWTHS, (18431, 20479, 22527, 24575, 26623, 28671, 30719, 32767))


class StepNine(unittest.TestCase):
    def test_exponent_and_mantissa(self):
        known = ((0, (-4, 7)), (1, (-3, 7)), (2, (-2, 3)), (3, (-2, 7)), (4, (-1, 1)), (7, (-1, 7)), (8, (0, 0)),
                 (15, (0, 7)), (16, (1, 0)), (23, (1, 7)), (24, (2, 0)), (56, (6, 0)), (63, (6, 7)))
        for code, parts in known:
            self.assertEqual(pulses.exponent_and_mantissa(code), parts)

    def test_pulses(self):
        self.assertEqual(pulses.pulse_codes([32767, -32768, 0, -1, 8192, 8191], 63), [7, 0, 4, 3, 5, 4])
        self.assertEqual(pulses.pulse_codes([31, -31, 0, 8, 7], 0), [7, 0, 4, 5, 4])
        self.assertEqual(pulses.pulse_codes([63, -63, 16, 15], 1), [7, 0, 5, 4])
        self.assertEqual(pulses.pulse_codes([255, -255], 7), [7, 0])
        self.assertEqual(pulses.pulse_codes([287, -287, 72, 71], 8), [7, 0, 5, 4])
        self.assertEqual(pulses.pulse_codes([511, -511], 15), [7, 0])
        self.assertEqual(pulses.pulse_codes([575, -575], 16), [7, 0])

    def test_every_size_gives_codes_from_0_to_7(self):
        for greatest in list(range(600)) + list(range(600, 32768, 97)) + [32767]:
            codes = pulses.pulse_codes([greatest, -greatest], pulses.size_code(greatest))
            self.assertTrue(0 <= min(codes) and max(codes) <= 7)


class StepTen(unittest.TestCase):
    def test_pulses_decoded(self):
        self.assertEqual(pulses.pulse_values([7, 0, 4, 3], 63), [28671, -28671, 4096, -4096])
        self.assertEqual(pulses.pulse_values([7, 0, 4, 3], 0), [28, -28, 4, -4])
        self.assertEqual(pulses.pulse_values([7, 0], 1), [56, -56])
        self.assertEqual(pulses.pulse_values([7, 0, 4, 3], 8), [252, -252, 36, -36])
        self.assertEqual(pulses.pulse_values([7, 0], 15), [448, -448])
        self.assertEqual(pulses.pulse_values([7, 0], 16), [504, -504])

    def test_spread(self):
        self.assertEqual(pulses.on_grid(pulses.spread(list(range(1, 14)), 2), 2), list(range(1, 14)))
        self.assertEqual(sum(pulses.spread(list(range(1, 14)), 2)), 91)
        self.assertEqual(pulses.spread([1] * 13, 3)[:7], [0, 0, 0, 1, 0, 0, 1])

    def test_rebuilt_stops(self):
        self.assertEqual(pulses.rebuilt([32000] * 40, 0, 63, [7] * 13)[:3], [32767, 32000, 32000])
        self.assertEqual(pulses.rebuilt([-32000] * 40, 1, 63, [0] * 13)[:3], [-32000, -32768, -32000])


class StepEleven(unittest.TestCase):
    def test_bits_highest_first(self):
        for seed in range(20):
            codes = [number + 64 for number in noise(len(WIDTHS), 64, seed)]
            codes = [code % 2 ** width for width, code in zip(WIDTHS, codes)]
            self.assertEqual(packing.packed(codes), frame_of(codes))
            self.assertEqual(packing.unpacked(frame_of(codes)), codes)

    def test_ends(self):
        self.assertEqual(packing.packed([0] * 76), [208] + [0] * 32)
        self.assertEqual(packing.packed([2 ** width - 1 for width in WIDTHS]), [223] + [255] * 32)
        self.assertEqual(codes_in([223] + [255] * 32), [2 ** width - 1 for width in WIDTHS])

    def test_mark(self):
        self.assertTrue(packing.is_marked([208] + [0] * 32))
        self.assertTrue(packing.is_marked([223] + [0] * 32))
        self.assertFalse(packing.is_marked([207] + [0] * 32))
        self.assertFalse(packing.is_marked([224] + [0] * 32))


if __name__ == "__main__":
    unittest.main()
