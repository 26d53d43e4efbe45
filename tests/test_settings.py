"""open, dark, gains and hot: points 1 to 4."""

import unittest

from lines import BINS, GREY, OPEN, colours, dark, frame_behind, gains, hot, last, level, noise, row, say, spots, take


class Open(unittest.TestCase):
    def test_answer(self):
        self.assertEqual(say(OPEN), [[0]])

    def test_frame_and_picture_are_0(self):
        self.assertEqual(frame_behind(OPEN), level(0))
        self.assertEqual(last(OPEN, GREY), [0] + level(0))
        self.assertEqual(last(OPEN, BINS), [0] + [0] * 64)
        self.assertEqual(last(OPEN, colours(3, 4)), [0, 0, 0, 0])

    def test_dark_is_0_and_gains_leave_counts_as_they_are(self):
        counts = noise(11, 4096)
        self.assertEqual(frame_behind(OPEN, take(counts)), counts)

    def test_no_place_is_hot_by_the_dark_frame(self):
        self.assertEqual(last(OPEN, hot(0)), [0])

    def test_a_second_open_begins_anew(self):
        counts = noise(12, 4096)
        setting = [OPEN, dark(noise(13, 100)), gains(noise(14, 65536)), hot(30), take(noise(15, 4096))]
        self.assertEqual(last(*setting, OPEN), [0])
        self.assertEqual(frame_behind(*setting, OPEN), level(0))
        self.assertEqual(last(*setting, OPEN, GREY), [0] + level(0))
        self.assertEqual(last(*setting, OPEN, hot(0)), [0])
        self.assertEqual(frame_behind(*setting, OPEN, take(counts)), counts)


class Dark(unittest.TestCase):
    def test_answer(self):
        self.assertEqual(last(OPEN, dark(noise(21, 4096))), [0])

    def test_it_is_taken_off_place_by_place(self):
        off = noise(22, 1000)
        counts = [1000 + k for k in noise(23, 3000)]
        self.assertEqual(frame_behind(OPEN, dark(off), take(counts)), [c - d for c, d in zip(counts, off)])

    def test_how_it_is_packed(self):
        # 0x321 and 0x654 are the bytes 0x21, 0x43, 0x65.
        packed = [2, 384, 0x21, 0x43, 0x65] + [0] * 381
        self.assertEqual(last(OPEN, packed, hot(0x320)), [2])
        self.assertEqual(last(OPEN, packed, hot(0x321)), [1])
        self.assertEqual(last(OPEN, packed, hot(0x653)), [1])
        self.assertEqual(last(OPEN, packed, hot(0x654)), [0])

    def test_the_newest_holds(self):
        self.assertEqual(frame_behind(OPEN, dark(level(9)), dark(level(4)), take(level(10))), level(6))

    def test_frame_and_picture_stay(self):
        before = [OPEN, take(noise(24, 4096))]
        self.assertEqual(frame_behind(*before, dark(level(99))), frame_behind(*before))
        self.assertEqual(last(*before, dark(level(99)), GREY), last(*before, GREY))
        self.assertEqual(last(*before, dark(level(99)), colours(2, 3)), last(*before, colours(2, 3)))


class Gains(unittest.TestCase):
    def test_answer(self):
        self.assertEqual(last(OPEN, gains(noise(31, 65536))), [0])

    def test_place_by_place(self):
        factors = [257 * k for k in range(256)]
        self.assertEqual(frame_behind(OPEN, gains(factors), take(level(2000))), [2000 * f // 32768 for f in factors])

    def test_the_newest_holds(self):
        self.assertEqual(frame_behind(OPEN, gains(level(0)), gains(level(16384)), take(level(10))), level(5))

    def test_frame_and_picture_stay(self):
        before = [OPEN, take(noise(32, 4096))]
        self.assertEqual(frame_behind(*before, gains(level(0))), frame_behind(*before))
        self.assertEqual(last(*before, gains(level(0)), GREY), last(*before, GREY))


class Hot(unittest.TestCase):
    DARK = spots({(0, 0): 1, (5, 5): 100, (6, 5): 101, (15, 15): 4095})

    def test_how_many_have_more_than_n(self):
        for n, many in [(0, 4), (1, 3), (99, 3), (100, 2), (101, 1), (4094, 1), (4095, 0)]:
            with self.subTest(n=n):
                self.assertEqual(last(OPEN, dark(self.DARK), hot(n)), [many])

    def test_all_places(self):
        self.assertEqual(last(OPEN, dark(level(4095)), hot(4094)), [256])
        self.assertEqual(last(OPEN, dark(level(4095)), hot(4095)), [0])
        self.assertEqual(last(OPEN, dark(level(1)), hot(0)), [256])

    def test_n_not_as_told(self):
        for n in [-1, 4096, -2147483648, 2147483647]:
            with self.subTest(n=n):
                self.assertEqual(last(OPEN, dark(self.DARK), hot(n)), [-2])

    def test_a_refusal_leaves_the_hot_places(self):
        counts = noise(41, 4096)
        kept = frame_behind(OPEN, dark(self.DARK), hot(99), take(counts))
        self.assertNotEqual(kept, frame_behind(OPEN, dark(self.DARK), take(counts)))
        for n in [-1, 4096]:
            with self.subTest(n=n):
                self.assertEqual(frame_behind(OPEN, dark(self.DARK), hot(99), hot(n), take(counts)), kept)

    def test_the_newest_holds_alone(self):
        counts = noise(42, 4096)
        self.assertEqual(
            frame_behind(OPEN, dark(self.DARK), hot(0), hot(100), take(counts)),
            frame_behind(OPEN, dark(self.DARK), hot(100), take(counts)),
        )
        self.assertEqual(
            frame_behind(OPEN, dark(self.DARK), hot(0), hot(4095), take(counts)),
            frame_behind(OPEN, dark(self.DARK), take(counts)),
        )

    def test_a_dark_frame_by_itself_makes_no_place_hot(self):
        self.assertEqual(
            frame_behind(OPEN, hot(0), dark(spots({(4, 4): 7})), take(level(10))), spots({(4, 4): 3}, 10),
        )

    def test_a_later_dark_frame_leaves_the_hot_places(self):
        counts = spots({(4, 4): 4000, (8, 8): 3000}, 10)
        told = frame_behind(OPEN, dark(spots({(4, 4): 7})), hot(0), dark(spots({(8, 8): 7})), take(counts))
        self.assertEqual(told, spots({(8, 8): 2993}, 10))

    def test_frame_and_picture_stay(self):
        before = [OPEN, dark(self.DARK), take(noise(43, 4096))]
        self.assertEqual(frame_behind(*before, hot(0)), frame_behind(*before))
        self.assertEqual(last(*before, hot(0), GREY), last(*before, GREY))


class RefusalsBehindAnOpen(unittest.TestCase):
    def test_they_change_nothing_and_tell_nothing(self):
        before = [OPEN, dark(noise(51, 90)), hot(50), take(noise(52, 4096))]
        wrong = [hot(-1), row(16), row(-1), colours(16, 0), colours(0, -1)]
        parts = say(*before, *wrong, GREY, BINS, take(noise(53, 4096)), GREY)
        self.assertEqual(parts[4:9], [[-2]] * 5)
        self.assertEqual(parts[9:], say(*before, GREY, BINS, take(noise(53, 4096)), GREY)[4:])


if __name__ == "__main__":
    unittest.main()
