"""How calls stand in the list, how answers are given back, and what a line begins with."""

import unittest

from greychip.camera import answers
from lines import (
    BINS, EDGES, GREY, OPEN, PACK, SPREAD, byte_row, colours, dark, gains, hot, level, mask, noise, order, parts, row,
    say, take, wholes,
)

DOUBLES = [(1, -12), (-3, -13), (5, -13)]
M = [255, 0, 128, 0, 0, 0, 0, 127]
B = [9, 8, 7, 6, 5, 4, 3, 2]

# Each call once, as it is told, behind an open.
EACH = [
    OPEN, dark(noise(1, 60)), gains(noise(2, 65536)), hot(40), take(noise(3, 4096)), row(5), colours(4, 7), GREY, BINS,
    SPREAD, EDGES, order(5, 27), mask(2, 1, M, B), byte_row(2), PACK, parts(5), wholes(0, *DOUBLES),
]
REFUSED = [
    hot(4096), row(16), colours(-1, 0), order(16, 27), order(5, 256), mask(16, 1, M, B), mask(2, 2, M, B), byte_row(-1),
    parts(16), wholes(2, *DOUBLES), wholes(0, (1, -12), (1, 21)),
]
LINE = [number for call in [row(3)] + EACH + REFUSED + [row(5), byte_row(2)] for number in call]


class ReadOnly(list):
    """A list that can't be changed, not for a while either."""

    def refuse(self, *args, **named):
        raise AssertionError("what is handed in is changed")

    __setitem__ = __delitem__ = __iadd__ = __imul__ = refuse
    append = extend = insert = pop = remove = clear = sort = reverse = refuse


class Form(unittest.TestCase):
    def test_how_many_numbers_stand_before_each_answer(self):
        told = answers(row(0) + OPEN + row(0) + row(16) + colours(0, 0))
        self.assertEqual(told, [1, -7, 1, 0, 17, 16] + [0] * 16 + [1, -2, 4, 0, 0, 0, 0])

    def test_the_length_of_every_answer(self):
        lengths = [len(told) for told in say(*EACH)]
        self.assertEqual(lengths, [1, 1, 1, 1, 1, 17, 4, 257, 65, 17, 1, 1, 1, 17, 385, 33, 4])

    def test_what_the_answers_begin_with(self):
        told = say(
            OPEN, dark(level(9)), gains(level(1)), hot(8), take(level(0)), row(0), colours(0, 0), GREY, BINS,
            SPREAD, EDGES, order(5, 27), mask(2, 1, M, B), byte_row(2), PACK, parts(5), wholes(0, *DOUBLES),
        )
        self.assertEqual([part[0] for part in told], [0, 0, 0, 256, 0, 16, 0, 0, 0, 0, 0, 0, 2, 16, 0, 16, 3])

    def test_the_instance_of_the_interface(self):
        line = [
            11,
            1,
            13, 2, 1, 8, 255, 0, 128, 0, 0, 0, 0, 127, 8, 9, 8, 7, 6, 5, 4, 3, 2,
            14, 2,
            11,
            12, 3, 27,
            6, 3,
            17, 0, 6, 1, -12, -3, -13, 5, -13,
            17, 1, 6, 1, -12, -3, -13, 5, -13,
            16, 0,
        ]
        self.assertEqual(answers(line), [
            1, -7,
            1, 0,
            1, 2,
            17, 16, 0, 0, 0, 0, 0, 0, 0, 0, 9, 0, 7, 0, 0, 0, 0, 0,
            1, 32,
            1, 0,
            17, 16, 0, 0, 0, 0, 0, 0, 0, 0, 0, 0, 0, 0, 0, 0, 0, 0,
            4, 3, 1, -2, 2,
            4, 3, 1, -1, 2,
            33, 16, 0, 0, 0, 0, 0, 0, 0, 0, 0, 0, 0, 0, 0, 0, 0, 0, 0, 0, 0, 0, 0, 0, 0, 0, 0, 0, 0, 0, 0, 0, 0, 0,
        ])

    def test_no_answer_but_a_refusal_begins_below_0(self):
        self.assertEqual([told[0] < 0 for told in say(*EACH)], [False] * 17)
        self.assertEqual(say(wholes(0, (-1, 0))), [[1, -4096]])

    def test_a_refusal_is_one_number_alone(self):
        self.assertEqual(say(*EACH, *REFUSED)[17:], [[-2]] * len(REFUSED))

    def test_refused_calls_change_nothing(self):
        telling = [GREY, PACK, hot(40), take(noise(4, 4096)), GREY, PACK]
        self.assertEqual(say(*EACH, *REFUSED, *telling)[17 + len(REFUSED):], say(*EACH, *telling)[17:])

    def test_all_numbers_are_plain_ints_in_a_list(self):
        told = answers(LINE)
        self.assertIs(type(told), list)
        self.assertEqual({type(number) for number in told}, {int})

    def test_forty_calls(self):
        self.assertEqual(say(OPEN, *[take(level(4095))] * 39), [[0]] + [[256]] * 39)

    def test_forty_of_the_longest_answers(self):
        self.assertEqual(say(OPEN, *[GREY] * 39), [[0]] + [[0] * 257] * 39)
        self.assertEqual(say(OPEN, *[PACK] * 39), [[0]] + [[0] * 385] * 39)

    def test_forty_of_the_longest_lists_of_doubles(self):
        self.assertEqual(say(*[wholes(0, *[(1, -60), (0, 600)] * 32)] * 40), [[64] + [0] * 64] * 40)


class HandedIn(unittest.TestCase):
    def test_the_list_is_the_same_behind_a_call(self):
        line = list(LINE)
        answers(line)
        self.assertEqual(line, LINE)

    def test_the_list_is_not_changed_for_a_while(self):
        self.assertEqual(answers(ReadOnly(LINE)), answers(LINE))

    def test_the_same_list_gives_the_same_again(self):
        line = list(LINE)
        first = answers(line)
        kept = list(first)
        first.clear()
        self.assertEqual(answers(line), kept)

    def test_each_call_by_itself_leaves_the_list_and_tells_the_same_again(self):
        for call in EACH + REFUSED:
            for before in [[], OPEN + take(noise(6, 4096))]:
                line = before + call
                kept = list(line)
                with self.subTest(call=call[0], chip=before != []):
                    told = answers(ReadOnly(line))
                    self.assertEqual(answers(line), told)
                    self.assertEqual(answers(line), told)
                    self.assertEqual(line, kept)

    def test_nothing_is_kept_from_one_time_to_the_next(self):
        fresh = answers(OPEN + hot(0) + take(level(100)) + GREY)
        answers(OPEN + dark(level(50)) + gains(level(65535)) + hot(10) + take(noise(5, 4096)))
        answers(OPEN + order(2, 0) + mask(2, 1, M, B))
        self.assertEqual(say(GREY), [[-7]])
        self.assertEqual(answers(OPEN + hot(0) + take(level(100)) + GREY), fresh)


class NoChip(unittest.TestCase):
    def test_each_call_ahead_of_an_open(self):
        for call in EACH[1:16]:
            with self.subTest(call=call[0]):
                self.assertEqual(say(call), [[-7]])

    def test_before_all_else(self):
        further = [
            hot(-1), row(-1), colours(0, 16), colours(2147483647, -2147483648), order(-1, 0), order(0, -1),
            order(16, 256), mask(-1, 0, M, B), mask(0, -1, M, B), byte_row(16), byte_row(2147483647), parts(-1),
            parts(-2147483648),
        ]
        for call in REFUSED[:-2] + further:
            with self.subTest(call=call):
                self.assertEqual(say(call), [[-7]])

    def test_wholes_asks_for_none(self):
        self.assertEqual(say(*EACH[1:]), [[-7]] * 15 + [[3, 1, -2, 2]])
        self.assertEqual(say(*REFUSED[-2:]), [[-2], [-2]])

    def test_refused_calls_are_passed_over_whole(self):
        # 273 is packed as the bytes 17, 17, 17, the number of a call.
        calls = [dark(level(273)), take(level(273)), mask(1, 1, [1] * 8, [1] * 8), mask(16, 2, [17] * 8, [13] * 8)]
        calls.extend(EACH[2:16])
        self.assertEqual(say(*calls, OPEN, hot(0)), [[-7]] * len(calls) + [[0], [0]])
        wrong = [mask(1, 2, [1] * 8, [1] * 8), wholes(2, (1, 1), (1, 1)), wholes(0, (1, 1), (1, 100))]
        self.assertEqual(say(OPEN, *wrong, hot(0)), [[0], [-2], [-2], [-2], [0]])

    def test_refused_calls_change_nothing(self):
        refused = [dark(level(5)), gains(level(0)), hot(0), take(level(9)), order(0, 0), mask(0, 0, [255] * 8, B)]
        behind = [OPEN, byte_row(0), PACK, take(level(7)), row(0), GREY]
        self.assertEqual(say(*refused, *behind)[6:], say(*behind))

    def test_an_open_is_the_end_of_it(self):
        self.assertEqual(say(BINS, OPEN, BINS), [[-7], [0], [0] * 65])


if __name__ == "__main__":
    unittest.main()
