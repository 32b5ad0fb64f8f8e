"""Boards and chords that cannot be (points 2 and 3), and which refusal is due first.

Wishes, counts and texts that cannot be have files of their own.
"""

import unittest

from ghostkeys.errors import BadBoard, BadChord
from ghostkeys.following import follow
from ghostkeys.pieces import blanks, ghosts, lit, seen, twin, unsure
from ghostkeys.readings import chords_of, open_keys, sure_keys
from ghostkeys.texts import drawn
from tests.reference import BLOCK, MIXED, NO_KEY, ONE_KEY, RING, SQUARE, all_crossings

HUGE = 10 ** 60 - 1

OF_CHORDS = (lit, seen, ghosts, blanks, twin)
OF_READINGS = (chords_of, sure_keys, open_keys, follow)


def unsure_of_one(board, chord):
    return unsure(board, [chord])


def drawn_only(board, _):
    return drawn(board)


class BoardTest(unittest.TestCase):
    def assert_bad(self, board, word, number):
        calls = [(call, ()) for call in OF_CHORDS] + [(call, []) for call in (unsure, drawn_only, *OF_READINGS)]
        for call, told in calls:
            with self.assertRaises(BadBoard, msg=f"{call.__name__} {board}") as caught:
                call(board, told)
            self.assertEqual((caught.exception.word, caught.exception.number), (word, number), board)

    def test_boards_that_can_be(self):
        for board in (ONE_KEY, NO_KEY, SQUARE, BLOCK, RING, MIXED):
            for call in OF_CHORDS:
                call(board, ())
            self.assertIsNone(unsure(board, []))
            for call in OF_READINGS:
                call(board, [])
            drawn(board)

    def test_each_count_of_lines_from_one_to_six(self):
        for rows in range(1, 7):
            for columns in range(1, 7):
                board = (rows, columns, ((rows - 1, columns - 1),))
                self.assertEqual(lit(board, (0,)), [(rows - 1, columns - 1)])

    def test_lines(self):
        for wrong in (0, 7, 8, -1, -6, HUGE, -HUGE):
            self.assert_bad((wrong, 1, ()), "lines", 0)
            self.assert_bad((1, wrong, ()), "lines", 0)
            self.assert_bad((6, wrong, ((0, 0),)), "lines", 0)
            self.assert_bad((wrong, wrong, ()), "lines", 0)

    def test_lines_come_ahead_of_keys(self):
        self.assert_bad((0, 2, ((0, 0), (0, 0))), "lines", 0)
        self.assert_bad((2, 7, ((0, 6), (5, 5))), "lines", 0)
        self.assert_bad((7, 6, tuple(all_crossings(6, 6))), "lines", 0)

    def test_a_key_outside(self):
        outside = ((2, 0), (0, 3), (-1, 0), (0, -1), (2, 3), (HUGE, 0), (0, HUGE), (-HUGE, 0), (0, -HUGE))
        for place in outside:
            self.assert_bad((2, 3, (place,)), "keys", 0)
            self.assert_bad((2, 3, ((1, 2), (0, 0), place)), "keys", 2)

    def test_rows_and_columns_are_not_changed_for_each_other(self):
        self.assertEqual(lit((1, 2, ((0, 1),)), (0,)), [(0, 1)])
        self.assert_bad((2, 1, ((0, 1),)), "keys", 0)
        self.assertEqual(lit((2, 1, ((1, 0),)), (0,)), [(1, 0)])
        self.assert_bad((1, 2, ((1, 0),)), "keys", 0)

    def test_each_number_of_a_wrong_key(self):
        places = RING[2]
        for number in range(12):
            outside = places[:number] + ((6, 0),) + places[number + 1:]
            self.assert_bad((6, 6, outside), "keys", number)
            for ahead in range(number):
                twice = places[:number] + (places[ahead],) + places[number + 1:]
                self.assert_bad((6, 6, twice), "keys", number)

    def test_a_place_that_stands_twice_is_wrong_where_it_comes_again(self):
        self.assert_bad((2, 2, ((0, 0), (1, 1), (0, 1), (1, 1), (0, 0))), "keys", 3)

    def test_a_thirteenth_key(self):
        crossings = tuple(all_crossings(6, 6))
        seen((6, 6, crossings[:12]), (0, 11))
        self.assert_bad((6, 6, crossings[:13]), "keys", 12)
        self.assert_bad((6, 6, crossings), "keys", 12)
        self.assert_bad((6, 6, crossings[:12] + (crossings[0],)), "keys", 12)
        self.assert_bad((6, 6, crossings[:12] + ((6, 6),)), "keys", 12)
        self.assert_bad((6, 6, crossings * 2 + crossings), "keys", 12)

    def test_the_first_wrong_key_of_several(self):
        crossings = tuple(all_crossings(6, 6))
        self.assert_bad((6, 6, crossings[:5] + ((0, 6), (7, 0)) + crossings[5:]), "keys", 5)
        self.assert_bad((6, 6, crossings[:11] + (crossings[3],) + crossings[11:]), "keys", 11)
        self.assert_bad((2, 2, ((0, 0), (0, 0), (5, 5))), "keys", 1)
        self.assert_bad((2, 2, ((0, 0), (5, 5), (0, 0))), "keys", 1)


class ChordTest(unittest.TestCase):
    def assert_bad(self, board, chord, place):
        for call in OF_CHORDS + (unsure_of_one,):
            with self.assertRaises(BadChord, msg=f"{call.__name__} {chord}") as caught:
                call(board, chord)
            self.assertEqual(caught.exception.place, place, chord)

    def test_chords_that_can_be(self):
        for chord in ((), (0,), (11,), (0, 11), (3, 4, 5), tuple(range(12))):
            for call in OF_CHORDS + (unsure_of_one,):
                call(MIXED, chord)

    def test_no_key(self):
        self.assert_bad(NO_KEY, (0,), 0)
        self.assert_bad(ONE_KEY, (1,), 0)
        self.assert_bad(ONE_KEY, (-1,), 0)
        self.assert_bad(SQUARE, (0, 1, 4), 2)
        self.assert_bad(SQUARE, (-4, 1), 0)
        self.assert_bad(MIXED, (12,), 0)
        self.assert_bad(MIXED, (0, HUGE), 1)
        self.assert_bad(MIXED, (-HUGE,), 0)

    def test_not_above_the_one_ahead(self):
        self.assert_bad(SQUARE, (0, 0), 1)
        self.assert_bad(SQUARE, (1, 0), 1)
        self.assert_bad(SQUARE, (3, 2, 1, 0), 1)
        self.assert_bad(SQUARE, (0, 2, 2), 2)
        self.assert_bad(SQUARE, (0, 2, 1), 2)
        self.assert_bad(SQUARE, (2, -1), 1)

    def test_each_place(self):
        whole = tuple(range(12))
        self.assert_bad(MIXED, whole + (12,), 12)
        self.assert_bad(MIXED, whole + (11,), 12)
        for place in range(12):
            for wrong in (12, -1, HUGE, -HUGE):
                self.assert_bad(MIXED, whole[:place] + (wrong,) + whole[place + 1:], place)
            if place:
                self.assert_bad(MIXED, whole[:place] + (place - 1,) + whole[place + 1:], place)

    def test_the_first_wrong_place_of_several(self):
        self.assert_bad(SQUARE, (0, 2, 1, 9), 2)
        self.assert_bad(SQUARE, (0, 9, 1, 1), 1)
        self.assert_bad(SQUARE, (7, 8), 0)
        self.assert_bad(SQUARE, tuple(range(100)), 4)
        self.assert_bad(SQUARE, (1,) * 100, 1)


class OrderTest(unittest.TestCase):
    def test_the_board_ahead_of_the_chord(self):
        for call in OF_CHORDS + (unsure_of_one,):
            with self.assertRaises(BadBoard) as caught:
                call((2, 2, ((0, 0), (2, 2))), (5, 5))
            self.assertEqual((caught.exception.word, caught.exception.number), ("keys", 1))
            with self.assertRaises(BadBoard) as caught:
                call((0, 2, ((0, 0), (2, 2))), (5, 5))
            self.assertEqual((caught.exception.word, caught.exception.number), ("lines", 0))

    def test_the_board_ahead_of_the_reading(self):
        for call in OF_READINGS:
            with self.assertRaises(BadBoard) as caught:
                call((2, 2, ((0, 0), (0, 0))), [[(5, 5)]] if call == follow else [(5, 5)])
            self.assertEqual((caught.exception.word, caught.exception.number), ("keys", 1))

    def test_a_bad_chord_ahead_of_an_unsure_one(self):
        with self.assertRaises(BadChord) as caught:
            unsure(SQUARE, [(0, 1, 2), (), (1, 2, 2)])
        self.assertEqual(caught.exception.place, 2)

    def test_the_first_bad_chord_of_several(self):
        with self.assertRaises(BadChord) as caught:
            unsure(SQUARE, [(0,), (0, 0), (9,), (1, 2, 1)])
        self.assertEqual(caught.exception.place, 1)


if __name__ == "__main__":
    unittest.main()
