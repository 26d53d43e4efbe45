"""How calls stand in the list, how answers are given back, and what a line begins with."""

import unittest

from greychip.camera import answers
from lines import BINS, GREY, OPEN, colours, dark, gains, hot, level, noise, row, say, take

LINE = (
    row(3) + OPEN + dark(noise(1, 60)) + gains(noise(2, 65536)) + hot(40) + take(noise(3, 4096))
    + row(16) + row(5) + colours(4, 7) + colours(-1, 0) + GREY + BINS
)


class ReadOnly(list):
    """A list that can't be changed, not for a while either."""

    def refuse(self, *args, **named):
        raise AssertionError("what is handed in is changed")

    __setitem__ = __delitem__ = __iadd__ = __imul__ = refuse
    append = extend = insert = pop = remove = clear = sort = reverse = refuse


class Form(unittest.TestCase):
    def test_how_many_numbers_stand_before_each_answer(self):
        told = answers(row(0) + OPEN + row(0) + row(16) + colours(0, 0))
        self.assertEqual(told, [1, -7, 1, 0, 17, 16] + [0] * 16 + [1, -2, 4, 0, 0, 0, 0])

    def test_the_length_of_every_answer(self):
        parts = say(OPEN, dark(level(0)), gains(level(1)), hot(0), take(level(0)), row(0), colours(0, 0), GREY, BINS)
        self.assertEqual([len(part) for part in parts], [1, 1, 1, 1, 1, 17, 4, 257, 65])

    def test_what_the_answers_begin_with(self):
        parts = say(OPEN, dark(level(9)), gains(level(1)), hot(8), take(level(0)), row(0), colours(0, 0), GREY, BINS)
        self.assertEqual([part[0] for part in parts], [0, 0, 0, 256, 0, 16, 0, 0, 0])

    def test_all_numbers_are_plain_ints_in_a_list(self):
        told = answers(LINE)
        self.assertIs(type(told), list)
        self.assertEqual({type(number) for number in told}, {int})

    def test_forty_calls(self):
        parts = say(OPEN, *[take(level(4095))] * 39)
        self.assertEqual(parts, [[0]] + [[256]] * 39)

    def test_forty_of_the_longest_answers(self):
        parts = say(OPEN, *[GREY] * 39)
        self.assertEqual(parts, [[0]] + [[0] * 257] * 39)


class HandedIn(unittest.TestCase):
    def test_the_list_is_the_same_behind_a_call(self):
        line = list(LINE)
        answers(line)
        self.assertEqual(line, LINE)

    def test_the_list_is_not_changed_for_a_while(self):
        self.assertEqual(answers(ReadOnly(LINE)), answers(LINE))

    def test_the_same_list_gives_the_same_again(self):
        line = list(LINE)
        first = answers(line)
        kept = list(first)
        first.clear()
        self.assertEqual(answers(line), kept)

    def test_nothing_is_kept_from_one_time_to_the_next(self):
        fresh = answers(OPEN + hot(0) + take(level(100)) + GREY)
        answers(OPEN + dark(level(50)) + gains(level(65535)) + hot(10) + take(noise(5, 4096)))
        self.assertEqual(say(GREY), [[-7]])
        self.assertEqual(answers(OPEN + hot(0) + take(level(100)) + GREY), fresh)


class NoChip(unittest.TestCase):
    def test_each_call_ahead_of_an_open(self):
        for call in [dark(level(1)), gains(level(1)), hot(0), take(level(4095)), row(0), colours(0, 0), GREY, BINS]:
            with self.subTest(call=call[0]):
                self.assertEqual(say(call), [[-7]])

    def test_before_all_else(self):
        for call in [hot(-1), hot(4096), row(-1), row(16), colours(-1, 0), colours(0, 16), colours(2147483647, -2147483648)]:
            with self.subTest(call=call):
                self.assertEqual(say(call), [[-7]])

    def test_refused_calls_are_passed_over_whole(self):
        calls = [dark(level(273)), gains(level(1)), hot(1), take(level(273)), row(1), colours(1, 1), GREY, BINS]
        self.assertEqual(say(*calls, OPEN, hot(0)), [[-7]] * 8 + [[0], [0]])

    def test_refused_calls_change_nothing(self):
        behind = say(dark(level(5)), gains(level(0)), hot(0), take(level(9)), OPEN, take(level(7)), row(0), GREY)
        self.assertEqual(behind[4:], say(OPEN, take(level(7)), row(0), GREY))

    def test_an_open_is_the_end_of_it(self):
        self.assertEqual(say(BINS, OPEN, BINS), [[-7], [0], [0] * 65])


if __name__ == "__main__":
    unittest.main()
