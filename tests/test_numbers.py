"""parts and wholes: points 16 and 17."""

import unittest

import model
from lines import OPEN, WRONG, dark, frame_behind, last, level, noise, order, parts, picture_behind, say, take, wholes

BIGGEST = 2 ** 53
# Odd and even ones, and those beside each power of two.
SIZES = noise(3, 2 ** 20) + [5, 7, 11, 13] + [2 ** k + d for k in range(1, 53) for d in (-1, 0, 1)]
EXPONENTS = [-113, -90, -75, -64, -53, -40, -33, -32, -31, -30, -28, -24, -20, -16, -14, -13, -12, -5, 0, 1, 10]


class Parts(unittest.TestCase):
    def test_counts_at_the_edges(self):
        for count, single in [
            (0, [0, 0]), (1, [1, -12]), (2, [1, -11]), (3, [3, -12]), (6, [3, -11]), (1000, [125, -9]),
            (2047, [2047, -12]), (2048, [1, -1]), (2049, [2049, -12]), (3072, [3, -2]), (4094, [2047, -11]),
            (4095, [4095, -12]),
        ]:
            with self.subTest(count=count):
                self.assertEqual(last(OPEN, take(level(count)), parts(0)), [16] + single * 16)

    def test_every_count(self):
        for start in range(0, 4096, 256):
            counts = list(range(start, start + 256))
            told = say(OPEN, take(counts), *[parts(y) for y in range(16)])[2:]
            for y in range(16):
                row = counts[16 * y:16 * y + 16]
                with self.subTest(start=start, y=y):
                    self.assertEqual(told[y], [16] + [number for count in row for number in model.single(count)])

    def test_of_the_frame_as_it_was_cleaned(self):
        self.assertEqual(last(OPEN, dark(level(1)), take(level(2049)), parts(15)), [16] + [1, -1] * 16)

    def test_behind_an_order(self):
        counts = list(range(4)) + level(0)[4:]
        self.assertEqual(last(OPEN, take(counts), order(0, 27), parts(0))[:9], [16, 3, -12, 1, -11, 1, -12, 0, 0])

    def test_it_changes_nothing(self):
        before = [OPEN, take(noise(1, 4096))]
        self.assertEqual(frame_behind(*before, parts(3)), frame_behind(*before))

    def test_y_not_as_told(self):
        for y in WRONG:
            with self.subTest(y=y):
                self.assertEqual(last(OPEN, take(level(99)), parts(y)), [-2])


class Wholes(unittest.TestCase):
    def check(self, z, e, nearest, cut):
        """One double by itself, to the nearest and cut off."""
        with self.subTest(z=z, e=e):
            self.assertEqual(say(wholes(0, (z, e)), wholes(1, (z, e))), [[1, nearest], [1, cut]])

    def test_none(self):
        self.assertEqual(say(wholes(0), wholes(1)), [[0], [0]])

    def test_sixty_four(self):
        for how in range(2):
            doubles = [(k, -12) for k in range(-32, 32)]
            self.assertEqual(last(wholes(how, *doubles)), [64] + list(range(-32, 32)))

    def test_sixty_five_are_too_many(self):
        self.assertEqual(last(wholes(0, *[(1, 0)] * 65)), [-2])

    def test_whole_ones(self):
        for z, e, whole in [
            (1, -12, 1), (-1, -12, -1), (1, 0, 4096), (7, 0, 28672), (-8, 0, -32768), (4096, -24, 1),
            (12345, -12, 12345),
        ]:
            self.check(z, e, whole, whole)

    def test_just_between_two(self):
        # In halves of a 4096th: 1 is between 0 and 1, 3 between 1 and 2.
        for z, nearest, cut in [
            (1, 0, 0), (3, 2, 1), (5, 2, 2), (7, 4, 3), (-1, 0, 0), (-3, -2, -1), (-5, -2, -2), (-7, -4, -3),
        ]:
            self.check(z, -13, nearest, cut)
            self.check(64 * z, -19, nearest, cut)

    def test_a_little_beside_the_middle(self):
        middle = 2 ** 51
        for odd in [1, 3, 5, 7]:
            low = odd // 2
            z = odd * middle // 4
            # z 2^-62 is odd halves of a 4096th.
            self.check(z - 1, -62, low, low)
            self.check(z + 1, -62, low + 1, low)
            self.check(1 - z, -62, -low, -low)
            self.check(-1 - z, -62, -low - 1, -low)

    def test_a_little_beside_a_whole_one(self):
        self.check(5 * 2 ** 40 + 1, -52, 5, 5)
        self.check(5 * 2 ** 40 - 1, -52, 5, 4)
        self.check(-5 * 2 ** 40 - 1, -52, -5, -5)
        self.check(1 - 5 * 2 ** 40, -52, -5, -4)

    def test_sixteen_bits(self):
        for z, whole in [
            (32766, 32766), (32767, 32767), (32768, 32767), (32769, 32767), (65535, 32767), (65536, 32767),
            (2 ** 31, 32767), (2 ** 32, 32767), (-32767, -32767), (-32768, -32768), (-32769, -32768), (-32770, -32768),
            (-65536, -32768), (-2 ** 31, -32768), (-2 ** 32, -32768),
        ]:
            self.check(z, -12, whole, whole)

    def test_sixteen_bits_and_a_half(self):
        self.check(2 * 32766 + 1, -13, 32766, 32766)
        self.check(2 * 32767 + 1, -13, 32767, 32767)
        self.check(2 * 32767 - 1, -13, 32766, 32766)
        self.check(-2 * 32767 - 1, -13, -32768, -32767)
        self.check(-2 * 32768 - 1, -13, -32768, -32768)
        self.check(4 * 32767 + 3, -14, 32767, 32767)
        self.check(-4 * 32768 - 3, -14, -32768, -32768)

    def test_sizes_at_the_edges(self):
        for z, e in [(1, -60), (2 ** 53, -113), (2 ** 20, -80), (3, -61), (2 ** 53 - 1, -112), (2 ** 52 + 1, -112)]:
            self.check(z, e, 0, 0)
            self.check(-z, e, 0, 0)
        for z, e in [(1, 20), (2 ** 53, -33), (2 ** 20, 0), (2, 19), (2 ** 53 - 1, -33), (3, 18), (2 ** 52, -32)]:
            self.check(z, e, 32767, 32767)
            self.check(-z, e, -32768, -32768)

    def test_sizes_beyond_the_edges(self):
        less = [(1, -61), (2 ** 53 - 1, -113), (2 ** 53, -114), (3, -62), (1, -600), (2 ** 53, -600)]
        more = [
            (1, 21), (2 ** 20 + 1, 0), (2 ** 53 - 1, -32), (2 ** 52 + 1, -32), (2 ** 53, -32), (3, 19), (1, 600),
            (2 ** 53, 600),
        ]
        for z, e in less + more:
            for sign in [1, -1]:
                for how in range(2):
                    with self.subTest(z=sign * z, e=e, how=how):
                        self.assertEqual(last(wholes(how, (sign * z, e))), [-2])

    def test_0_with_any_e(self):
        for e in range(-600, 601, 25):
            self.check(0, e, 0, 0)

    def test_z_or_e_beyond_what_is_told(self):
        for z, e in [(2 ** 53 + 1, -53), (-2 ** 53 - 1, -53), (1, 601), (1, -601), (0, 601), (0, -601)]:
            with self.subTest(z=z, e=e):
                self.assertEqual(last(wholes(0, (z, e))), [-2])

    def test_a_double_without_its_e(self):
        self.assertEqual(say([17, 0, 3, 1, -12, 1], wholes(0)), [[-2], [0]])

    def test_one_among_others_that_may_not_be_handed_in(self):
        for wrong in [(1, 21), (-1, 21), (1, -61), (-1, -61), (2 ** 53, 600)]:
            for at in [0, 1, 31, 63]:
                doubles = [(1, -12)] * 64
                doubles[at] = wrong
                with self.subTest(wrong=wrong, at=at):
                    self.assertEqual(say(wholes(0, *doubles), wholes(1, *doubles)), [[-2], [-2]])

    def test_how_not_as_told(self):
        for how in [-1, 2, 3, -2147483648, 2147483647]:
            for doubles in [[], [(1, -12)], [(1, 600)]]:
                with self.subTest(how=how, doubles=doubles):
                    self.assertEqual(last(wholes(how, *doubles)), [-2])

    def test_no_chip_is_asked_for(self):
        call = wholes(0, (1, -12), (-3, -13), (5, -13))
        self.assertEqual(say(call, OPEN, call), [[3, 1, -2, 2], [0], [3, 1, -2, 2]])
        self.assertEqual(say(wholes(2, (1, -12))), [[-2]])

    def test_no_chip_comes_of_it(self):
        self.assertEqual(say(wholes(1, (1, 0)), parts(0)), [[1, 4096], [-7]])

    def test_the_chip_stays(self):
        before = [OPEN, take(noise(2, 4096))]
        call = wholes(0, (1, 0), (3, -13))
        self.assertEqual(frame_behind(*before, call), frame_behind(*before))
        self.assertEqual(picture_behind(*before, call), picture_behind(*before))

    def test_many_against_the_model(self):
        for e in EXPONENTS:
            doubles = [(sign * z, e) for z in SIZES for sign in (1, -1) if model.is_handed_in(z, e)]
            for start in range(0, len(doubles), 64):
                some = doubles[start:start + 64]
                for how in range(2):
                    with self.subTest(e=e, start=start, how=how):
                        told = last(wholes(how, *some))
                        self.assertEqual(told, [len(some)] + [model.whole(z, e, how) for z, e in some])

    def test_which_may_be_handed_in_against_the_model(self):
        zs = [1, 2, 3, 5, 2 ** 20 - 1, 2 ** 20, 2 ** 20 + 1, BIGGEST - 1, BIGGEST]
        for z in zs:
            for e in list(range(-120, -50)) + list(range(-40, 30)):
                with self.subTest(z=z, e=e):
                    self.assertEqual(last(wholes(1, (z, e))) != [-2], model.is_handed_in(z, e))
                    self.assertEqual(last(wholes(1, (-z, e))) != [-2], model.is_handed_in(z, e))


if __name__ == "__main__":
    unittest.main()
