"""take: point 5, with packing, cleaning and mending."""

import unittest

import model
from lines import GREY, OPEN, dark, frame_behind, gains, hot, last, level, noise, spots, take

EDGES = [0, 1, 2, 7, 8, 13, 14, 15]


class Packed(unittest.TestCase):
    def test_two_counts_in_three_bytes(self):
        told = frame_behind(OPEN, [5, 384, 0x21, 0x43, 0x65] + [0] * 378 + [0xFE, 0xDC, 0xBA])
        self.assertEqual(told, [0x321, 0x654] + [0] * 252 + [0xCFE, 0xBAD])

    def test_each_byte_by_itself(self):
        for at, pair in [(0, [255, 0]), (1, [3840, 15]), (2, [0, 4080])]:
            packed = [0] * 384
            packed[30 + at] = 255
            with self.subTest(at=at):
                self.assertEqual(frame_behind(OPEN, [5, 384] + packed)[20:22], pair)

    def test_row_by_row_from_x_0(self):
        counts = list(range(256))
        self.assertEqual(frame_behind(OPEN, take(counts)), counts)

    def test_least_and_greatest(self):
        self.assertEqual(frame_behind(OPEN, [5, 384] + [0] * 384), level(0))
        self.assertEqual(frame_behind(OPEN, [5, 384] + [255] * 384), level(4095))


class Answer(unittest.TestCase):
    def test_how_many_are_4095(self):
        for places, many in [({}, 0), ({(0, 0): 4095}, 1), ({(3, 2): 4095, (15, 15): 4095, (1, 1): 4094}, 2)]:
            with self.subTest(many=many):
                self.assertEqual(last(OPEN, take(spots(places, 17))), [many])
        self.assertEqual(last(OPEN, take(level(4095))), [256])

    def test_counted_once_they_are_cleaned(self):
        self.assertEqual(last(OPEN, dark(level(1)), take(level(4095))), [0])
        self.assertEqual(last(OPEN, gains(level(65535)), take(level(2048))), [256])
        self.assertEqual(last(OPEN, gains(level(65535)), take(level(2047))), [0])

    def test_counted_once_they_are_mended(self):
        self.assertEqual(
            last(OPEN, dark(spots({(4, 4): 1})), hot(0), gains(level(65535)), take(spots({(4, 4): 4095}, 9))), [0],
        )
        ring = spots({(2, 4): 4095, (6, 4): 4095, (4, 2): 4095, (4, 6): 4095}, 9)
        self.assertEqual(last(OPEN, dark(spots({(4, 4): 1})), hot(0), take(ring)), [5])


class Cleaned(unittest.TestCase):
    def cleaned(self, count, off, gain):
        told = frame_behind(OPEN, dark(level(off)), gains(level(gain)), take(level(count)))
        self.assertEqual(told, level(told[0]))
        return told[0]

    def test_ordinary(self):
        self.assertEqual(self.cleaned(1000, 24, 32768), 976)
        self.assertEqual(self.cleaned(1000, 0, 49152), 1500)
        self.assertEqual(self.cleaned(1000, 200, 16384), 400)

    def test_dark_above_the_count(self):
        self.assertEqual(self.cleaned(10, 11, 32768), 0)
        self.assertEqual(self.cleaned(0, 4095, 65535), 0)
        self.assertEqual(self.cleaned(10, 10, 65535), 0)
        self.assertEqual(self.cleaned(11, 10, 32768), 1)

    def test_gain_edges(self):
        for gain, told in [(0, 0), (1, 0), (8, 0), (9, 1), (32767, 4094), (32768, 4095), (32769, 4095), (65535, 4095)]:
            with self.subTest(gain=gain):
                self.assertEqual(self.cleaned(4095, 0, gain), told)

    def test_rounded_down(self):
        self.assertEqual(self.cleaned(1, 0, 32767), 0)
        self.assertEqual(self.cleaned(1, 0, 65535), 1)
        self.assertEqual(self.cleaned(3, 0, 16384), 1)

    def test_4095_at_the_most(self):
        self.assertEqual(self.cleaned(2047, 0, 65535), 4093)
        self.assertEqual(self.cleaned(2048, 0, 65535), 4095)
        self.assertEqual(self.cleaned(2049, 0, 65535), 4095)
        self.assertEqual(self.cleaned(4095, 0, 65535), 4095)

    def test_the_dark_is_taken_off_ahead_of_the_gain(self):
        self.assertEqual(self.cleaned(4095, 4000, 65535), 189)


class Mended(unittest.TestCase):
    def mended(self, x, y, places, ground=0):
        """What is told of one hot place; the frame is held bright there as a hot place is."""
        off = spots({(x, y): 1})
        counts = spots({(x, y): 4095, **places}, ground)
        told = frame_behind(OPEN, dark(off), hot(0), dark(level(0)), take(counts))
        for at, count in enumerate(told):
            if at != 16 * y + x:
                self.assertEqual(count, counts[at])
        return told[16 * y + x]

    def test_of_its_four_like(self):
        places = {(5, 6): 100, (9, 6): 200, (7, 4): 300, (7, 8): 500}
        self.assertEqual(self.mended(7, 6, places), 275)

    def test_nothing_else_is_looked_at(self):
        near = {(6, 6): 4095, (8, 6): 4095, (7, 5): 4095, (7, 7): 4095, (5, 4): 4095, (9, 8): 4095, (4, 6): 4095}
        self.assertEqual(self.mended(7, 6, near), 0)

    def test_each_mean_is_rounded_by_itself(self):
        self.assertEqual(self.mended(7, 6, {(5, 6): 1}), 1)
        self.assertEqual(self.mended(7, 6, {(7, 8): 1}), 1)
        self.assertEqual(self.mended(7, 6, {(5, 6): 2}), 1)
        self.assertEqual(self.mended(7, 6, {(5, 6): 1, (7, 4): 1}), 1)

    def test_left_goes_with_right_and_above_with_below(self):
        # 1, 1 and 2, 0 make 1 and 1, so 1; paired otherwise 1, 2 and 1, 0 would make 2 and 1, so 2.
        self.assertEqual(self.mended(7, 6, {(5, 6): 1, (9, 6): 1, (7, 4): 2}), 1)
        self.assertEqual(self.mended(7, 6, {(7, 4): 1, (7, 8): 1, (9, 6): 2}), 1)

    def test_left_edge(self):
        self.assertEqual(self.mended(0, 6, {(2, 6): 1000}), 500)
        # At x 1 the one two places to the left is the hot one itself, as it was cleaned.
        self.assertEqual(self.mended(1, 6, {(3, 6): 5}), 1025)

    def test_right_edge(self):
        self.assertEqual(self.mended(15, 6, {(13, 6): 1000}), 500)
        self.assertEqual(self.mended(14, 6, {(12, 6): 5}), 1025)

    def test_upper_edge(self):
        self.assertEqual(self.mended(6, 0, {(6, 2): 1000}), 500)
        self.assertEqual(self.mended(6, 1, {(6, 3): 5}), 1025)

    def test_lower_edge(self):
        self.assertEqual(self.mended(6, 15, {(6, 13): 1000}), 500)
        self.assertEqual(self.mended(6, 14, {(6, 12): 5}), 1025)

    def test_corners_of_the_chip(self):
        for x, y, inner_x, inner_y in [(0, 0, 2, 2), (15, 0, 13, 2), (0, 15, 2, 13), (15, 15, 13, 13)]:
            with self.subTest(x=x, y=y):
                self.assertEqual(self.mended(x, y, {(inner_x, y): 301, (x, inner_y): 100}), 201)

    def test_hot_like_are_looked_at_as_they_were_cleaned(self):
        off = spots({(4, 6): 1, (6, 6): 1, (8, 6): 1})
        counts = spots({(4, 6): 4000, (6, 6): 3000, (8, 6): 2000})
        told = frame_behind(OPEN, dark(off), hot(0), dark(level(0)), take(counts))
        self.assertEqual(told, spots({(4, 6): 750, (6, 6): 1500, (8, 6): 750}))

    def test_the_dark_and_the_gain_are_there_ahead_of_the_mending(self):
        off = spots({(7, 6): 4095, (5, 6): 100})
        factors = spots({(5, 6): 16384, (7, 6): 0}, 32768)
        counts = spots({(7, 6): 4095, (5, 6): 1100}, 0)
        told = frame_behind(OPEN, dark(off), gains(factors), hot(100), take(counts))
        self.assertEqual(told, spots({(7, 6): 125, (5, 6): 500}))

    def test_all_places_hot(self):
        counts = noise(61, 4096)
        told = frame_behind(OPEN, dark(level(1)), hot(0), dark(level(0)), take(counts))
        self.assertEqual(told, model.frame(counts, level(0), level(32768), level(1), 0))


class Taken(unittest.TestCase):
    def test_the_newest_frame_holds(self):
        counts = noise(71, 4096)
        self.assertEqual(frame_behind(OPEN, take(noise(72, 4096)), take(counts)), counts)
        self.assertEqual(last(OPEN, take(noise(72, 4096)), take(counts), GREY), last(OPEN, take(counts), GREY))

    def test_against_the_model(self):
        for seed in range(100, 130):
            counts = noise(seed, 4096)
            off = noise(seed + 1000, 200)
            factors = noise(seed + 2000, 65536)
            n = 20 * (seed % 10)
            setting = [OPEN, dark(off), gains(factors), hot(n)]
            frame = model.frame(counts, off, factors, off, n)
            with self.subTest(seed=seed):
                self.assertEqual(last(*setting), [sum(d > n for d in off)])
                self.assertEqual(last(*setting, take(counts)), [frame.count(4095)])
                self.assertEqual(frame_behind(*setting, take(counts)), frame)

    def test_each_place_at_the_edges_against_the_model(self):
        counts = noise(81, 4096)
        for y in EDGES:
            for x in EDGES:
                off = spots({(x, y): 1})
                with self.subTest(x=x, y=y):
                    told = frame_behind(OPEN, dark(off), hot(0), dark(level(0)), take(counts))
                    self.assertEqual(told, model.frame(counts, level(0), level(32768), off, 0))


if __name__ == "__main__":
    unittest.main()
