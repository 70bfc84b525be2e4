"""The document's section "Numbers"."""

import unittest

from pulsevoice import sums


class StoppingSums(unittest.TestCase):
    def test_sums_stop_at_both_ends(self):
        self.assertEqual(sums.plus(32767, 1), 32767)
        self.assertEqual(sums.plus(32766, 1), 32767)
        self.assertEqual(sums.plus(-32768, -1), -32768)
        self.assertEqual(sums.plus(-32767, -1), -32768)
        self.assertEqual(sums.plus(-32768, 32767), -1)

    def test_differences_stop_at_both_ends(self):
        self.assertEqual(sums.minus(-32768, 1), -32768)
        self.assertEqual(sums.minus(32767, -1), 32767)
        self.assertEqual(sums.minus(0, -32768), 32767)
        self.assertEqual(sums.minus(5, 7), -2)

    def test_stop_at_32_bits(self):
        self.assertEqual(sums.stopped_long(2 ** 31), 2 ** 31 - 1)
        self.assertEqual(sums.stopped_long(2 ** 31 - 1), 2 ** 31 - 1)
        self.assertEqual(sums.stopped_long(-2 ** 31 - 1), -2 ** 31)
        self.assertEqual(sums.stopped_long(-2 ** 31), -2 ** 31)

    def test_16_bits_with_their_sign(self):
        self.assertEqual(sums.low_bits(32768), -32768)
        self.assertEqual(sums.low_bits(32767), 32767)
        self.assertEqual(sums.low_bits(-32769), 32767)
        self.assertEqual(sums.low_bits(65536), 0)


class Products(unittest.TestCase):
    def test_rounded(self):
        self.assertEqual(sums.rounded_product(1, 16384), 1)
        self.assertEqual(sums.rounded_product(1, 16383), 0)
        self.assertEqual(sums.rounded_product(-1, 16384), 0)
        self.assertEqual(sums.rounded_product(-1, 16385), -1)
        self.assertEqual(sums.rounded_product(100, -28180), -86)

    def test_cut_goes_downwards(self):
        self.assertEqual(sums.product(1, 32767), 0)
        self.assertEqual(sums.product(-1, 1), -1)
        self.assertEqual(sums.product(3, 16384), 1)
        self.assertEqual(sums.product(-3, 16384), -2)

    def test_both_stop(self):
        self.assertEqual(sums.rounded_product(-32768, -32768), 32767)
        self.assertEqual(sums.product(-32768, -32768), 32767)
        self.assertEqual(sums.rounded_product(-32768, 32767), -32767)
        self.assertEqual(sums.product(-32768, 32767), -32767)


class Sizes(unittest.TestCase):
    def test_size(self):
        self.assertEqual([sums.size(value) for value in (-32768, -32767, -1, 0, 32767)], [32767, 32767, 1, 0, 32767])

    def test_greatest(self):
        self.assertEqual(sums.greatest_size([3, -32768, 9]), 32767)
        self.assertEqual(sums.greatest_size([3, -8, 5]), 8)

    def test_sign(self):
        self.assertEqual([sums.with_sign_of(value, 7) for value in (-2, 0, 2)], [-7, 7, 7])


class Doublings(unittest.TestCase):
    def test_above_0(self):
        self.assertEqual(sums.doublings(1), 30)
        self.assertEqual(sums.doublings(2 ** 30 - 1), 1)
        self.assertEqual(sums.doublings(2 ** 30), 0)
        self.assertEqual(sums.doublings(2 ** 31 - 1), 0)

    def test_below_0(self):
        self.assertEqual(sums.doublings(-1), 31)
        self.assertEqual(sums.doublings(-2 ** 30), 1)
        self.assertEqual(sums.doublings(-2 ** 30 - 1), 0)
        self.assertEqual(sums.doublings(-2 ** 31), 0)

    def test_doubled_so_often_it_still_fits(self):
        for value in (1, 2, 3, 1000, 65536, 2 ** 31 - 1, -1, -2, -3, -40000):
            often = sums.doublings(value)
            self.assertTrue(-2 ** 31 <= value << often < 2 ** 31)
            self.assertFalse(-2 ** 31 <= value << often + 1 < 2 ** 31)

    def test_headroom(self):
        for values, shift in (([0, 0], 0), ([1], 0), ([2047], 0), ([-2048], 1), ([16383], 3), ([16384], 4), ([-32768], 4)):
            self.assertEqual(sums.headroom_shift(values, 4), shift)
        for values, shift in (([0], 0), ([511], 0), ([512], 1), ([-32768], 6)):
            self.assertEqual(sums.headroom_shift(values, 6), shift)


if __name__ == "__main__":
    unittest.main()
