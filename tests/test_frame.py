"""spread, order and pack: points 10, 12 and 15."""

import unittest

import model
from lines import (
    BINS, OPEN, PACK, SPREAD, WRONG, colours, dark, frame_behind, gains, hot, last, level, noise, order, pack,
    parts, picture_behind, row, say, spots, take,
)


class Spread(unittest.TestCase):
    def test_edges_of_the_sixteenths(self):
        for count, k in [
            (0, 0), (1, 0), (255, 0), (256, 1), (511, 1), (512, 2), (2047, 7), (2048, 8), (3839, 14), (3840, 15),
            (4095, 15),
        ]:
            many = [0] * 16
            many[k] = 256
            with self.subTest(count=count):
                self.assertEqual(last(OPEN, take(level(count)), SPREAD), [0] + many)

    def test_several_counts(self):
        counts = spots({(0, 0): 255, (15, 0): 256, (0, 15): 4095, (15, 15): 4095, (7, 8): 300}, 1000)
        self.assertEqual(last(OPEN, take(counts), SPREAD), [0, 1, 2, 0, 251] + [0] * 11 + [2])

    def test_behind_an_open(self):
        self.assertEqual(last(OPEN, SPREAD), [0, 256] + [0] * 15)

    def test_of_the_frame_as_it_was_cleaned_and_mended(self):
        self.assertEqual(last(OPEN, dark(level(1)), take(level(256)), SPREAD), [0, 256] + [0] * 15)
        off, factors, counts = noise(1, 300), noise(2, 65536), noise(3, 4096)
        frame = model.frame(counts, off, factors, off, 200)
        told = last(OPEN, dark(off), gains(factors), hot(200), take(counts), SPREAD)
        self.assertEqual(told, [0] + model.spread(frame))

    def test_against_the_model(self):
        for seed in range(10, 30):
            counts = noise(seed, 4096)
            with self.subTest(seed=seed):
                self.assertEqual(last(OPEN, take(counts), SPREAD), [0] + model.spread(counts))


class Order(unittest.TestCase):
    COUNTS = [16 * k + 1 for k in range(256)]

    def ordered(self, code):
        """Row 3, whose counts are 0 to 15 here, behind an order."""
        counts = list(range(100, 148)) + list(range(16)) + [99] * 192
        return last(OPEN, take(counts), order(3, code), row(3))[1:]

    def test_answer(self):
        self.assertEqual(last(OPEN, order(0, 0)), [0])
        self.assertEqual(last(OPEN, take(self.COUNTS), order(15, 255)), [0])

    def test_the_codes_at_the_edges(self):
        self.assertEqual(self.ordered(0), [0, 0, 0, 0, 4, 4, 4, 4, 8, 8, 8, 8, 12, 12, 12, 12])
        self.assertEqual(self.ordered(27), [3, 2, 1, 0, 7, 6, 5, 4, 11, 10, 9, 8, 15, 14, 13, 12])
        self.assertEqual(self.ordered(228), list(range(16)))
        self.assertEqual(self.ordered(255), [3, 3, 3, 3, 7, 7, 7, 7, 11, 11, 11, 11, 15, 15, 15, 15])

    def test_the_lowest_bits_tell_the_first(self):
        self.assertEqual(self.ordered(1)[:4], [1, 0, 0, 0])
        self.assertEqual(self.ordered(8)[:4], [0, 2, 0, 0])
        self.assertEqual(self.ordered(48)[:4], [0, 0, 3, 0])
        self.assertEqual(self.ordered(64)[:4], [0, 0, 0, 1])
        # 3, then 1, then 0, then 2: which one comes there, not where each one goes to.
        self.assertEqual(self.ordered(0b10_00_01_11)[:4], [3, 1, 0, 2])

    def test_every_code_against_the_model(self):
        counts = noise(41, 4096)
        for code in range(256):
            y = code % 16
            with self.subTest(code=code):
                self.assertEqual(frame_behind(OPEN, take(counts), order(y, code)), model.ordered(counts, y, code))

    def test_each_row_by_itself(self):
        for y in range(16):
            with self.subTest(y=y):
                told = frame_behind(OPEN, take(self.COUNTS), order(y, 27))
                self.assertEqual(told, model.ordered(self.COUNTS, y, 27))
                self.assertEqual(told[:16 * y] + told[16 * y + 16:], self.COUNTS[:16 * y] + self.COUNTS[16 * y + 16:])

    def test_one_order_behind_another(self):
        self.assertEqual(frame_behind(OPEN, take(self.COUNTS), order(4, 27), order(4, 27)), self.COUNTS)
        twice = model.ordered(model.ordered(self.COUNTS, 4, 0b10_00_01_11), 4, 0b00_11_10_01)
        self.assertEqual(frame_behind(OPEN, take(self.COUNTS), order(4, 0b10_00_01_11), order(4, 0b00_11_10_01)), twice)

    def test_the_picture_stays(self):
        counts = noise(42, 4096)
        behind = [order(y, 27) for y in range(16)]
        self.assertNotEqual(frame_behind(OPEN, take(counts), *behind), counts)
        self.assertEqual(picture_behind(OPEN, take(counts), *behind), picture_behind(OPEN, take(counts)))

    def test_all_that_tells_the_frame_tells_it_so(self):
        counts = noise(43, 4096)
        after = model.ordered(counts, 6, 27)
        telling = [row(6), colours(5, 6), colours(5, 5), BINS, SPREAD, PACK, parts(6)]
        told = say(OPEN, take(counts), order(6, 27), *telling)[3:]
        self.assertEqual(told[0], [16] + after[96:112])
        self.assertEqual(told[1], [0] + model.colours(after, 5, 6))
        self.assertEqual(told[2], [0] + model.colours(after, 5, 5))
        self.assertEqual(told[3], [0] + model.bins(after))
        self.assertEqual(told[4], [0] + model.spread(after))
        self.assertEqual(told[5], [0] + pack(after))
        self.assertEqual(told[6], [16] + [number for count in after[96:112] for number in model.single(count)])

    def test_spread_tells_counts_that_come_twice(self):
        counts = spots({(0, 2): 4095})
        self.assertEqual(last(OPEN, take(counts), order(2, 0), SPREAD), [0, 252] + [0] * 14 + [4])

    def test_a_take_makes_the_frame_anew(self):
        counts = noise(44, 4096)
        self.assertEqual(frame_behind(OPEN, take(counts), order(5, 0), take(counts)), counts)

    def test_an_open_makes_the_frame_anew(self):
        self.assertEqual(frame_behind(OPEN, take(level(7)), order(5, 0), OPEN), level(0))

    def test_the_dark_frame_and_the_gains_stay(self):
        off, factors, counts = noise(45, 300), noise(46, 65536), noise(47, 4096)
        setting = [OPEN, dark(off), gains(factors), hot(250)]
        self.assertEqual(frame_behind(*setting, order(1, 0), take(counts)), frame_behind(*setting, take(counts)))

    def test_y_or_code_not_as_told(self):
        wrong_codes = [-1, 256, 257, -2147483648, 2147483647]
        wrong = [order(y, 27) for y in WRONG] + [order(3, code) for code in wrong_codes]
        for call in wrong + [order(16, 256), order(-1, -1)]:
            with self.subTest(call=call):
                self.assertEqual(last(OPEN, take(self.COUNTS), call), [-2])
                self.assertEqual(frame_behind(OPEN, take(self.COUNTS), call), self.COUNTS)


class Pack(unittest.TestCase):
    def test_two_counts_in_three_bytes(self):
        counts = [0x321, 0x654] + [0] * 252 + [0xCFE, 0xBAD]
        self.assertEqual(last(OPEN, take(counts), PACK), [0, 0x21, 0x43, 0x65] + [0] * 378 + [0xFE, 0xDC, 0xBA])

    def test_each_part_of_a_count_by_itself(self):
        for x, count, three in [
            (0, 0x0FF, [255, 0, 0]), (0, 0xF00, [0, 15, 0]), (1, 0x00F, [0, 240, 0]), (1, 0xFF0, [0, 0, 255]),
        ]:
            with self.subTest(x=x, count=count):
                told = last(OPEN, take(spots({(x, 1): count})), PACK)
                self.assertEqual(told, [0] + [0] * 24 + three + [0] * 357)

    def test_least_and_greatest(self):
        self.assertEqual(last(OPEN, PACK), [0] + [0] * 384)
        self.assertEqual(last(OPEN, take(level(4095)), PACK), [0] + [255] * 384)

    def test_of_the_frame_as_it_was_cleaned_and_mended(self):
        off, factors, counts = noise(51, 300), noise(52, 65536), noise(53, 4096)
        frame = model.frame(counts, off, factors, off, 200)
        self.assertEqual(last(OPEN, dark(off), gains(factors), hot(200), take(counts), PACK), [0] + pack(frame))

    def test_what_is_packed_may_be_taken_again(self):
        counts = noise(54, 4096)
        packed = last(OPEN, take(counts), PACK)[1:]
        self.assertEqual(packed, pack(counts))
        self.assertEqual(frame_behind(OPEN, [5, 384] + packed), counts)
        self.assertEqual(picture_behind(OPEN, [5, 384] + packed), picture_behind(OPEN, take(counts)))

    def test_against_the_model(self):
        for seed in range(60, 80):
            counts = noise(seed, 4096)
            with self.subTest(seed=seed):
                self.assertEqual(last(OPEN, take(counts), PACK), [0] + pack(counts))


class Telling(unittest.TestCase):
    def test_it_changes_nothing(self):
        calls = [SPREAD, PACK, row(2), BINS]
        told = say(OPEN, take(noise(90, 4096)), order(2, 27), *calls, *calls)
        self.assertEqual(told[3:7], told[7:])


if __name__ == "__main__":
    unittest.main()
