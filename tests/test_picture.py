"""edges, mask and bytes: points 11, 13 and 14."""

import unittest

import model
from lines import (
    BINS, EDGES, GREY, OPEN, PACK, SPREAD, WRONG, byte_row, colours, frame_behind, last, level, mask, noise, order,
    parts, picture_behind, row, say, take,
)

ALL = [255] * 8
NONE = [127] * 8


def painted(picture):
    """Calls that write these 256 bytes over the picture, half row by half row."""
    return [mask(k // 2, k % 2, ALL, picture[8 * k:8 * k + 8]) for k in range(32)]


class Edges(unittest.TestCase):
    def edges(self, picture):
        return last(OPEN, *painted(picture), EDGES)

    def test_a_picture_of_one_grey_has_none(self):
        self.assertEqual(last(OPEN, EDGES), [0])
        self.assertEqual(self.edges(level(255)), [0])

    def test_one_bright_place(self):
        for x, y, far in [
            (0, 0, 200), (1, 0, 400), (7, 5, 400), (8, 5, 400), (14, 9, 400), (15, 9, 200), (15, 15, 200), (0, 15, 200),
        ]:
            picture = level(0)
            picture[16 * y + x] = 200
            with self.subTest(x=x, y=y):
                self.assertEqual(self.edges(picture), [far])

    def test_up_and_down_count_alike(self):
        self.assertEqual(self.edges([10, 30, 25, 25] + [25] * 12 + [0] * 240), [25])
        self.assertEqual(self.edges(list(range(16)) + list(range(15, -1, -1)) + [0] * 224), [30])

    def test_not_from_one_row_to_the_next(self):
        self.assertEqual(self.edges(([0] * 16 + [255] * 16) * 8), [0])

    def test_not_between_rows(self):
        stripes = [255 * (at // 16 % 2) for at in range(256)]
        stripes[0] = 1
        self.assertEqual(self.edges(stripes), [1])

    def test_the_most(self):
        self.assertEqual(self.edges([0, 255] * 128), [61200])

    def test_of_the_picture_and_not_of_the_frame(self):
        counts = noise(1, 4096)
        self.assertEqual(last(OPEN, take(counts), EDGES), [model.edges(model.picture(counts))])

    def test_behind_an_order(self):
        counts = noise(2, 4096)
        self.assertEqual(last(OPEN, take(counts), order(3, 0), EDGES), last(OPEN, take(counts), EDGES))

    def test_against_the_model(self):
        for seed in range(10, 30):
            picture = noise(seed, 256)
            with self.subTest(seed=seed):
                self.assertEqual(self.edges(picture), [model.edges(picture)])


class Mask(unittest.TestCase):
    BYTES = [11, 22, 33, 44, 55, 66, 77, 88]

    def test_edges_of_m(self):
        m = [0, 1, 127, 128, 129, 254, 255, 126]
        told = say(OPEN, mask(7, 0, m, self.BYTES), byte_row(7))
        self.assertEqual(told[1:], [[4], [16, 0, 0, 0, 44, 55, 66, 77] + [0] * 9])

    def test_none_and_all(self):
        before = [OPEN, take(noise(31, 4096))]
        self.assertEqual(last(*before, mask(2, 1, NONE, self.BYTES)), [0])
        self.assertEqual(picture_behind(*before, mask(2, 1, NONE, self.BYTES)), picture_behind(*before))
        self.assertEqual(last(*before, mask(2, 1, [128] * 8, self.BYTES)), [8])
        self.assertEqual(last(*before, mask(2, 1, [128] * 8, self.BYTES), byte_row(2))[9:], self.BYTES)

    def test_h_tells_which_half(self):
        self.assertEqual(last(OPEN, mask(4, 0, ALL, self.BYTES), byte_row(4)), [16] + self.BYTES + [0] * 8)
        self.assertEqual(last(OPEN, mask(4, 1, ALL, self.BYTES), byte_row(4)), [16] + [0] * 8 + self.BYTES)

    def test_each_half_row(self):
        before = [OPEN, take(noise(32, 4096))]
        picture = picture_behind(*before)
        for y in range(16):
            for h in range(2):
                m, b = noise(100 + 2 * y + h, 256)[:8], noise(200 + 2 * y + h, 256)[:8]
                with self.subTest(y=y, h=h):
                    told = say(*before, mask(y, h, m, b), GREY)[2:]
                    self.assertEqual(told[0], [sum(mark >= 128 for mark in m)])
                    self.assertEqual(told[1], [0] + model.masked(picture, y, h, m, b))

    def test_each_place_by_itself(self):
        for k in range(8):
            m = [127] * 8
            m[k] = 128
            picture = level(0)
            picture[16 * 9 + 8 + k] = self.BYTES[k]
            with self.subTest(k=k):
                self.assertEqual(say(OPEN, mask(9, 1, m, self.BYTES), GREY)[1:], [[1], [0] + picture])

    def test_how_many_even_where_the_bytes_stood_there(self):
        self.assertEqual(last(OPEN, mask(0, 0, ALL, [0] * 8)), [8])
        self.assertEqual(say(OPEN, *[mask(0, 0, [255, 0] * 4, self.BYTES)] * 2)[1:], [[4], [4]])

    def test_bytes_of_0_and_255_are_written(self):
        m, b = [255, 255] + [0] * 6, [0, 255] + [9] * 6
        self.assertEqual(last(OPEN, take(level(2000)), mask(0, 0, m, b), byte_row(0))[1:4], [0, 255, 125])

    def test_one_behind_another(self):
        told = last(OPEN, mask(5, 0, ALL, self.BYTES), mask(5, 0, [0, 200] * 4, [1, 2, 3, 4, 5, 6, 7, 8]), byte_row(5))
        self.assertEqual(told, [16, 11, 2, 33, 4, 55, 6, 77, 8] + [0] * 8)

    def test_what_tells_the_picture_tells_it_as_written_over(self):
        counts = noise(33, 4096)
        picture = model.masked(model.picture(counts), 6, 1, ALL, self.BYTES)
        told = say(OPEN, take(counts), mask(6, 1, ALL, self.BYTES), EDGES, byte_row(6), GREY)[3:]
        self.assertEqual(told, [[model.edges(picture)], [16] + picture[96:112], [0] + picture])

    def test_the_frame_stays(self):
        before = [OPEN, take(noise(34, 4096))]
        telling = [row(6), colours(9, 6), BINS, SPREAD, PACK, parts(6)]
        told = say(*before, mask(6, 1, ALL, self.BYTES), *telling)
        self.assertEqual(told[3:], say(*before, *telling)[2:])
        self.assertEqual(frame_behind(*before, *painted(level(9))[:10]), frame_behind(*before))

    def test_a_take_makes_the_picture_anew(self):
        counts = noise(35, 4096)
        picture = model.picture(counts)
        self.assertEqual(picture_behind(OPEN, mask(6, 1, ALL, self.BYTES), take(counts)), picture)
        self.assertEqual(picture_behind(OPEN, take(counts), mask(6, 1, ALL, self.BYTES), take(counts)), picture)

    def test_an_open_makes_the_picture_anew(self):
        self.assertEqual(picture_behind(OPEN, mask(6, 1, ALL, self.BYTES), OPEN), level(0))

    def test_an_order_leaves_it(self):
        told = last(OPEN, mask(6, 1, ALL, self.BYTES), order(6, 0), byte_row(6))
        self.assertEqual(told, [16] + [0] * 8 + self.BYTES)

    def test_y_or_h_not_as_told(self):
        before = [OPEN, take(noise(36, 4096))]
        wrong = [(y, h) for y in WRONG for h in range(2)] + [(3, h) for h in [-1, 2, -2147483648, 2147483647]]
        for y, h in wrong + [(16, 2), (-1, -1)]:
            for m in [ALL, NONE]:
                with self.subTest(y=y, h=h, m=m[0]):
                    told = say(*before, mask(y, h, m, self.BYTES), GREY)[2:]
                    self.assertEqual(told, [[-2], [0] + picture_behind(*before)])


class Bytes(unittest.TestCase):
    def test_each_row_of_the_picture(self):
        counts = noise(41, 4096)
        picture = model.picture(counts)
        told = say(OPEN, take(counts), *[byte_row(y) for y in range(16)])[2:]
        for y in range(16):
            with self.subTest(y=y):
                self.assertEqual(told[y], [16] + picture[16 * y:16 * y + 16])

    def test_behind_an_open(self):
        self.assertEqual(last(OPEN, byte_row(15)), [16] + [0] * 16)

    def test_y_not_as_told(self):
        for y in WRONG:
            with self.subTest(y=y):
                self.assertEqual(last(OPEN, take(level(99)), byte_row(y)), [-2])


class Telling(unittest.TestCase):
    def test_it_changes_nothing(self):
        calls = [EDGES, byte_row(6), GREY]
        told = say(OPEN, take(noise(50, 4096)), mask(6, 1, ALL, Mask.BYTES), *calls, *calls)
        self.assertEqual(told[3:6], told[6:])


if __name__ == "__main__":
    unittest.main()
