"""row, colours, grey and bins: points 6 to 9."""

import unittest

import model
from lines import BINS, GREY, OPEN, WRONG, colours, dark, gains, hot, last, level, noise, row, say, spots, take


class Row(unittest.TestCase):
    def test_each_row(self):
        counts = noise(1, 4096)
        for y in range(16):
            with self.subTest(y=y):
                self.assertEqual(last(OPEN, take(counts), row(y)), [16] + counts[16 * y:16 * y + 16])

    def test_y_not_as_told(self):
        for y in WRONG:
            with self.subTest(y=y):
                self.assertEqual(last(OPEN, take(level(5)), row(y)), [-2])


class Colours(unittest.TestCase):
    # A place and those around it, no two alike, so that each answer tells which ones it was made of.
    AROUND = [
        [10, 200, 35],
        [401, 3000, 806],
        [1601, 70, 3207],
    ]
    ACROSS = 604
    ALONG = 135
    CROSS = 370
    # 10 with 3207 makes 1609, 35 with 1601 makes 818.
    CORNERS = 1214

    def told(self, x, y):
        places = {}
        for dy in range(3):
            for dx in range(3):
                places[x + dx - 1, y + dy - 1] = self.AROUND[dy][dx]
        return last(OPEN, take(spots(places, 4095)), colours(x, y))

    def test_at_red(self):
        self.assertEqual(self.told(8, 6), [0, 3000, self.CROSS, self.CORNERS])

    def test_at_blue(self):
        self.assertEqual(self.told(7, 5), [0, self.CORNERS, self.CROSS, 3000])

    def test_at_green_in_a_row_with_red(self):
        self.assertEqual(self.told(7, 6), [0, self.ACROSS, 3000, self.ALONG])

    def test_at_green_in_a_row_with_blue(self):
        self.assertEqual(self.told(8, 5), [0, self.ALONG, 3000, self.ACROSS])

    def test_each_mean_is_rounded_by_itself(self):
        self.assertEqual(last(OPEN, take(spots({(7, 6): 1})), colours(8, 6)), [0, 0, 1, 0])
        self.assertEqual(last(OPEN, take(spots({(7, 5): 1})), colours(8, 6)), [0, 0, 0, 1])
        self.assertEqual(last(OPEN, take(spots({(7, 7): 1})), colours(8, 6)), [0, 0, 0, 1])
        self.assertEqual(last(OPEN, take(spots({(8, 6): 1})), colours(7, 6)), [0, 1, 0, 0])

    def test_the_corners_are_paired_aslant(self):
        # Aslant 1, 1 and 2, 0 make 1 and 1, so 1. By rows 1, 2 and 0, 1 would make 2 and 1, so 2;
        # by columns 1, 0 and 2, 1 likewise.
        counts = spots({(7, 5): 1, (9, 7): 1, (9, 5): 2, (7, 7): 0})
        self.assertEqual(last(OPEN, take(counts), colours(8, 6)), [0, 0, 0, 1])

    def test_across_and_along_are_paired_straight(self):
        # Left 1, right 1, above 2, below 0: 1 and 1 make 1; paired otherwise 2 and 1 make 2.
        counts = spots({(7, 6): 1, (9, 6): 1, (8, 5): 2})
        self.assertEqual(last(OPEN, take(counts), colours(8, 6)), [0, 0, 1, 0])

    def test_corners_of_the_chip(self):
        counts = noise(2, 4096)
        here = {(x, y): counts[16 * y + x] for x in range(16) for y in range(16)}
        self.assertEqual(
            last(OPEN, take(counts), colours(0, 0)),
            [0, here[0, 0], (here[1, 0] + here[0, 1] + 1) // 2, here[1, 1]],
        )
        self.assertEqual(
            last(OPEN, take(counts), colours(15, 15)),
            [0, here[14, 14], (here[14, 15] + here[15, 14] + 1) // 2, here[15, 15]],
        )
        self.assertEqual(last(OPEN, take(counts), colours(15, 0)), [0, here[14, 0], here[15, 0], here[15, 1]])
        self.assertEqual(last(OPEN, take(counts), colours(0, 15)), [0, here[0, 14], here[0, 15], here[1, 15]])

    def test_every_place_against_the_model(self):
        counts = noise(3, 4096)
        for y in range(16):
            told = say(OPEN, take(counts), *[colours(x, y) for x in range(16)])[2:]
            for x in range(16):
                with self.subTest(x=x, y=y):
                    self.assertEqual(told[x], [0] + model.colours(counts, x, y))

    def test_of_the_frame_as_it_was_mended(self):
        off = spots({(8, 6): 1})
        counts = spots({(8, 6): 4095, (10, 6): 40})
        told = last(OPEN, dark(off), hot(0), take(counts), colours(8, 6))
        self.assertEqual(told, [0, 10, 0, 0])

    def test_x_or_y_not_as_told(self):
        for wrong in WRONG:
            for x, y in [(wrong, 0), (0, wrong), (15, wrong), (wrong, wrong)]:
                with self.subTest(x=x, y=y):
                    self.assertEqual(last(OPEN, take(level(5)), colours(x, y)), [-2])


class Grey(unittest.TestCase):
    def glass(self, red, green, blue):
        """A frame that has each colour the same all over."""
        counts = []
        for y in range(16):
            for x in range(16):
                counts.append({(0, 0): red, (1, 1): blue}.get((x % 2, y % 2), green))
        return counts

    def test_of_one_colour_each(self):
        for red, green, blue, byte in [
            (4095, 0, 0, 77), (0, 4095, 0, 150), (0, 0, 4095, 29), (1000, 2000, 3000, 113), (4095, 4095, 0, 227),
        ]:
            with self.subTest(red=red, green=green, blue=blue):
                told = last(OPEN, take(self.glass(red, green, blue)), GREY)
                self.assertEqual(told, [0] + level(byte))

    def test_rounding(self):
        # 256 times 7 and 2048 is still below 4096; 256 times 8 and 2048 is 4096.
        self.assertEqual(last(OPEN, take(level(7)), GREY), [0] + level(0))
        self.assertEqual(last(OPEN, take(level(8)), GREY), [0] + level(1))
        self.assertEqual(last(OPEN, take(level(23)), GREY), [0] + level(1))
        self.assertEqual(last(OPEN, take(level(24)), GREY), [0] + level(2))
        # Weighed, these make 2047 and 2048.
        self.assertEqual(last(OPEN, take(self.glass(10, 6, 13)), GREY), [0] + level(0))
        self.assertEqual(last(OPEN, take(self.glass(7, 6, 21)), GREY), [0] + level(1))

    def test_255_at_the_most(self):
        self.assertEqual(last(OPEN, take(level(4071)), GREY), [0] + level(254))
        self.assertEqual(last(OPEN, take(level(4072)), GREY), [0] + level(255))
        self.assertEqual(last(OPEN, take(level(4087)), GREY), [0] + level(255))
        self.assertEqual(last(OPEN, take(level(4088)), GREY), [0] + level(255))
        self.assertEqual(last(OPEN, take(level(4095)), GREY), [0] + level(255))

    def test_against_the_model(self):
        for seed in range(10, 20):
            counts = noise(seed, 4096)
            with self.subTest(seed=seed):
                self.assertEqual(last(OPEN, take(counts), GREY), [0] + model.picture(counts))

    def test_of_the_frame_as_it_was_cleaned_and_mended(self):
        off, factors, counts = noise(21, 300), noise(22, 65536), noise(23, 4096)
        frame = model.frame(counts, off, factors, off, 250)
        told = last(OPEN, dark(off), gains(factors), hot(250), take(counts), GREY)
        self.assertEqual(told, [0] + model.picture(frame))


class Bins(unittest.TestCase):
    def test_two_by_two_row_by_row(self):
        for x, y in [(0, 0), (1, 0), (0, 1), (1, 1), (2, 0), (0, 2), (14, 0), (15, 1), (0, 14), (7, 8), (15, 15)]:
            sums = [0] * 64
            sums[8 * (y // 2) + x // 2] = 4095
            with self.subTest(x=x, y=y):
                self.assertEqual(last(OPEN, take(spots({(x, y): 4095})), BINS), [0] + sums)

    def test_sums_are_not_cut(self):
        self.assertEqual(last(OPEN, take(level(4095)), BINS), [0] + [16380] * 64)

    def test_against_the_model(self):
        for seed in range(30, 40):
            counts = noise(seed, 4096)
            with self.subTest(seed=seed):
                self.assertEqual(last(OPEN, take(counts), BINS), [0] + model.bins(counts))

    def test_of_the_frame_as_it_was_cleaned(self):
        self.assertEqual(last(OPEN, dark(level(3)), take(level(10)), BINS), [0] + [28] * 64)


class Telling(unittest.TestCase):
    def test_it_changes_nothing(self):
        calls = [row(3), colours(4, 5), GREY, BINS]
        told = say(OPEN, take(noise(50, 4096)), *calls, *calls)
        self.assertEqual(told[2:6], told[6:])


if __name__ == "__main__":
    unittest.main()
