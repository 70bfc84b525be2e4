"""Coding, steps 1 to 6, and decoding's filter, by hand."""

import unittest

from pulsevoice import reflections as turns
from pulsevoice import spectrum
from pulsevoice.front import Front, faded
from pulsevoice.lattice import Flattener, Shaper


class StepOne(unittest.TestCase):
    def test_by_hand(self):
        self.assertEqual(Front().raised([8, 0]), [4, -3])

    def test_quotient_goes_downwards(self):
        self.assertEqual(Front().raised([-1]), [-4])
        self.assertEqual(Front().raised([7]), [0])

    def test_keeps_from_call_to_call(self):
        front = Front()
        once = front.raised([800]) + front.raised([800, -32768]) + front.raised([32767])
        self.assertEqual(once, Front().raised([800, 800, -32768, 32767]))
        self.assertNotEqual(front.raised([800]), Front().raised([800]))

    def test_rounding(self):
        for kept, rounded in ((16400, 0), (16401, 1)):
            front = Front()
            front.steady_free = kept
            self.assertEqual(front.raised([0]), [rounded])

    def test_nothing_comes_of_silence(self):
        front = Front()
        self.assertEqual(front.raised([0, 7, 0]), [0, 0, 0])
        self.assertEqual((front.last_halved, front.steady_free, front.last_rounded), (0, 0, 0))

    def test_loud(self):
        self.assertEqual(Front().raised([-32768, 32767]), [-16384, 30487])

    def test_greatest_leap(self):
        self.assertEqual(Front().raised([-32768] * 12000 + [32767])[-1], 32764)

    def test_kept_number(self):
        self.assertEqual(faded(131072, -4), -132)
        self.assertEqual(faded(-1, 0), -32735 + 32734)
        self.assertEqual(faded(2 ** 31 - 1, 32767), 2 ** 31 - 1)
        self.assertEqual(faded(-2 ** 31, -32768), -2 ** 31)


class StepsTwoAndThree(unittest.TestCase):
    def test_lowered_and_lifted(self):
        self.assertEqual(turns.lowered([32767, -32768, 8, 7, -8, -9], 4), [2048, -2048, 1, 0, 0, -1])
        self.assertEqual(turns.lowered([5, -5], 0), [5, -5])
        self.assertEqual(turns.lifted([2048, -2048, 2047, -1], 4), [-32768, -32768, 32752, -16])
        self.assertEqual(turns.lifted([5, -5], 0), [5, -5])

    def test_likeness(self):
        self.assertEqual([turns.likeness([1, 2, -3], lag) for lag in (0, 1, 2)], [28, -8, -6])
        self.assertEqual(len(turns.likenesses([1] * 160)), 9)
        self.assertEqual(turns.likenesses([1] * 160)[8], 304)

    def test_silence_reflects_nothing(self):
        self.assertEqual(turns.reflections([0] * 9), [0] * 8)

    def test_by_hand(self):
        self.assertEqual(turns.reflections([2 ** 30, 2 ** 29] + [0] * 7)[:3], [-16384, 10922, -8192])
        self.assertEqual(turns.reflections([2 ** 30, -2 ** 29] + [0] * 7)[:2], [16384, 10922])

    def test_a_0_in_the_middle(self):
        self.assertEqual(turns.reflections([2 ** 30, 0, 2 ** 29] + [0] * 6)[:2], [0, -16384])

    def test_normed_by_the_first(self):
        self.assertEqual(turns.normed([3, -1, 1]), [24576, -8192, 8192])

    def test_the_same_gives_32767(self):
        self.assertEqual(turns.quotient(9, 9), 32767)
        self.assertEqual(turns.quotient(0, 0), 32767)
        self.assertEqual(turns.quotient(0, 9), 0)
        self.assertEqual(turns.quotient(2, 3), 21845)
        self.assertEqual(turns.reflections([2 ** 30, 2 ** 30] + [0] * 7)[0], -32767)
        self.assertEqual(turns.reflections([2 ** 30, -2 ** 30] + [0] * 7)[0], 32767)

    def test_the_size_of_the_lowest(self):
        self.assertEqual(turns.reflections([2 ** 31 - 1, -2 ** 31] + [0] * 7)[0], 32767)

    def test_a_slow_swing_leaves_two_zeros(self):
        swing = [115296858, 115050086, 114318470, 113105826, 111419596, 109269454, 106667972, 103630130, 100172500]
        self.assertEqual(turns.reflections(swing), [-32698, 32494, -16384, 32767, 32767, 0, 0, 0])

    def test_below_the_size_this_and_all_behind_are_0(self):
        self.assertEqual(turns.reflections([2 ** 30, 2 ** 30 + 65536] + [5] * 7), [0] * 8)
        self.assertEqual(turns.reflections([2 ** 30, 2 ** 29, -2 ** 30] + [5] * 6), [-16384] + [0] * 7)

    def test_scale(self):
        self.assertEqual([turns.scale_shift([value]) for value in (0, 2047, 2048, -32768)], [0, 0, 1, 4])


class StepFour(unittest.TestCase):
    def test_tables(self):
        self.assertEqual(spectrum.SCALES, (20480, 20480, 20480, 20480, 13964, 15360, 8534, 9036))
        self.assertEqual(spectrum.OFFSETS, (0, 0, 2048, -2560, 94, -1792, -341, -1144))
        self.assertEqual(spectrum.LOWEST_CODES, (-32, -32, -16, -16, -8, -8, -4, -4))
        self.assertEqual(spectrum.INVERSES, (13107, 13107, 13107, 13107, 19223, 17476, 31454, 29708))

    def test_edges(self):
        for span, bent in ((0, 0), (1, 0), (22117, 11058), (22118, 11059), (31129, 20070), (31130, 20072), (32767, 26620)):
            self.assertEqual(spectrum.bent(span), bent)
            self.assertEqual(spectrum.bent(-span), -bent)

    def test_codes_in_the_middle(self):
        self.assertEqual(spectrum.codes_of([0] * 8), [32, 32, 20, 11, 8, 5, 3, 2])

    def test_codes_become_the_nearest(self):
        self.assertEqual(spectrum.codes_of([32767] * 8), [63, 63, 31, 31, 15, 15, 7, 7])
        self.assertEqual(spectrum.codes_of([-32767] * 8), [0] * 8)
        self.assertEqual([spectrum.code_of(0, value) for value in (-26000, -25600, -25000)], [0, 1, 1])

    def test_rounding(self):
        self.assertEqual([spectrum.code_of(0, value) for value in (-411, -410, 0, 409, 410)], [31, 31, 32, 32, 33])


class StepFive(unittest.TestCase):
    def test_numbers(self):
        self.assertEqual(spectrum.numbers_of([0, 32, 16, 11, 8, 5, 3, 2])[:3], [-26214, 0, -3276])
        self.assertEqual(spectrum.number_of(0, 63), 25394)
        self.assertEqual(spectrum.number_of(7, 7), 9718)

    def test_edges(self):
        for span, factor in ((0, 0), (11058, 22116), (11059, 22118), (20069, 31128), (20070, 31129), (26623, 32767),
                             (26624, 32767), (32767, 32767)):
            self.assertEqual(spectrum.unbent(span), factor)
            self.assertEqual(spectrum.unbent(-span), -factor)
        self.assertEqual(spectrum.unbent(-32768), -32767)

    def test_between(self):
        self.assertEqual(spectrum.between([3], [5]), [[2], [3], [3], [5]])
        self.assertEqual(spectrum.between([-1], [0]), [[-2], [-1], [-1], [0]])
        self.assertEqual(spectrum.between([4000], [-8000]), [[1000], [-2000], [-5000], [-8000]])

    def test_filters(self):
        self.assertEqual(spectrum.filters([16000] * 8, [16000] * 8), [[27059] * 8] * 4)


def first_only(factor):
    return [factor] + [0] * 7


class StepSix(unittest.TestCase):
    FACTORS = [first_only(0), first_only(3277), first_only(6554), first_only(9830)]

    def test_stretches(self):
        flat = Flattener().flat([1000] * 160, self.FACTORS)
        self.assertEqual(flat, [1000] * 13 + [1100] * 14 + [1200] * 13 + [1300] * 120)

    def test_by_hand(self):
        flattener = Flattener()
        row = [16384, -8192] + [0] * 6
        self.assertEqual([flattener.flat_one(value, row) for value in (1000, -300, 77)], [1000, 75, -285])

    def test_stops(self):
        flattener = Flattener()
        flattener.flat_one(32767, [32767] * 8)
        self.assertEqual(flattener.flat_one(32767, [32767] * 8), 32767)
        self.assertEqual(max(flattener.delayed), 32767)

    def test_keeps(self):
        flattener = Flattener()
        flattener.flat([500] * 160, self.FACTORS)
        self.assertEqual(flattener.delayed[0], 500)
        self.assertEqual(flattener.flat_one(0, first_only(16384)), 250)


class DecodingFilter(unittest.TestCase):
    def test_stretches(self):
        shaped = Shaper().shaped([1000] + [0] * 159, [first_only(0)] + [first_only(32767)] * 3)
        self.assertEqual(shaped, [1000] + [0] * 159)
        shaper = Shaper()
        shaper.delayed[0] = 1000
        rows = [first_only(-32767), first_only(32767), first_only(-32767), first_only(32767)]
        heard = shaper.shaped([0] * 160, rows)
        self.assertEqual(heard[:13], [1000] * 13)
        self.assertEqual([value > 0 for value in heard[12:28]], [place % 2 == 0 for place in range(15)] + [True])
        self.assertEqual(heard[27:40], [heard[26]] * 13)
        self.assertEqual(heard[40], -heard[26])

    def test_by_hand(self):
        shaper = Shaper()
        row = [16384, -8192] + [0] * 6
        self.assertEqual([shaper.shaped_one(value, row) for value in (1000, 75, -285)], [1000, -300, 77])

    def test_each_by_the_new_x(self):
        shaper = Shaper()
        shaper.delayed[7] = 2000
        self.assertEqual(shaper.shaped_one(100, [0] * 7 + [16384]), -900)
        self.assertEqual(shaper.delayed[8], 2000 - 450)

    def test_stops(self):
        shaper = Shaper()
        shaper.delayed = [-32768] * 9
        self.assertEqual(shaper.shaped_one(32767, [32767] * 8), 32767)
        self.assertEqual(shaper.shaped_one(-32768, [-32767] * 8), -2)


if __name__ == "__main__":
    unittest.main()
