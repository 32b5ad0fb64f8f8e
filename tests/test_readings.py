"""What a reading tells (point 7)."""

import unittest

from ghostkeys import readings
from ghostkeys.errors import NoReading
from ghostkeys.pieces import lit
from ghostkeys.readings import chords_of, open_keys, sure_keys
from tests.reference import (
    BLOCK,
    CORNER,
    MIXED,
    NO_KEY,
    ONE_KEY,
    RING,
    SQUARE,
    all_crossings,
    chords_by_reading,
    small_boards,
)

FULL_SQUARE = [(0, 0), (0, 1), (1, 0), (1, 1)]
HUGE = 10 ** 60 - 1


class ReadingTest(unittest.TestCase):
    def assert_told(self, board, reading, chords, sure, perhaps):
        self.assertEqual(chords_of(board, reading), chords)
        self.assertEqual(sure_keys(board, reading), sure)
        self.assertEqual(open_keys(board, reading), perhaps)

    def test_an_empty_reading(self):
        for board in (ONE_KEY, NO_KEY, (1, 1, ()), SQUARE, RING, MIXED):
            self.assert_told(board, [], [()], [], [])

    def test_a_reading_of_one_chord(self):
        self.assert_told(ONE_KEY, [(0, 0)], [(0,)], [0], [])
        self.assert_told(SQUARE, [(0, 0), (1, 1)], [(0, 3)], [0, 3], [])
        self.assert_told(CORNER, FULL_SQUARE, [(0, 1, 2)], [0, 1, 2], [])

    def test_a_reading_of_several_chords(self):
        self.assert_told(
            SQUARE,
            FULL_SQUARE,
            [(0, 1, 2), (0, 1, 2, 3), (0, 1, 3), (0, 2, 3), (1, 2, 3)],
            [],
            [0, 1, 2, 3],
        )

    def test_sure_keys_beside_open_ones(self):
        board = (3, 3, ((1, 1), (2, 2), (0, 0), (1, 0), (0, 1)))
        self.assert_told(
            board,
            FULL_SQUARE + [(2, 2)],
            [(0, 1, 2, 3), (0, 1, 2, 3, 4), (0, 1, 2, 4), (0, 1, 3, 4), (1, 2, 3, 4)],
            [1],
            [0, 2, 3, 4],
        )

    def test_a_sure_key_in_a_piece_with_open_ones(self):
        board = (3, 2, ((2, 1), (1, 1), (1, 0), (0, 1), (0, 0)))
        whole = all_crossings(3, 2)
        self.assert_told(
            board,
            whole,
            [(0, 1, 2, 3), (0, 1, 2, 3, 4), (0, 1, 2, 4), (0, 1, 3, 4), (0, 2, 3, 4)],
            [0],
            [1, 2, 3, 4],
        )

    def test_the_ring(self):
        whole = tuple(range(12))
        one_less = [whole[:key] + whole[key + 1:] for key in range(12)]
        self.assert_told(RING, all_crossings(6, 6), sorted([whole, *one_less]), [], list(whole))

    def test_all_readings_of_small_boards(self):
        for board in small_boards():
            self.assert_all_readings(board)

    def test_all_readings_of_twelve_keys_in_no_order(self):
        self.assert_all_readings(MIXED)

    def test_the_fullest_reading_of_twelve_keys_in_a_block(self):
        whole = all_crossings(3, 4)
        self.assert_told(BLOCK, whole, chords_by_reading(BLOCK)[tuple(whole)], [], list(range(12)))

    def assert_all_readings(self, board):
        for reading, chords in chords_by_reading(board).items():
            keys = range(len(board[2]))
            counts = [sum(key in chord for chord in chords) for key in keys]
            self.assert_told(
                board,
                list(reading),
                chords,
                [key for key in keys if counts[key] == len(chords)],
                [key for key in keys if 0 < counts[key] < len(chords)],
            )


class NoReadingTest(unittest.TestCase):
    def assert_none(self, board, reading):
        for call in (chords_of, sure_keys, open_keys):
            with self.assertRaises(NoReading, msg=f"{call.__name__} {reading}") as caught:
                call(board, reading)
            self.assertEqual(caught.exception.moment, 0)

    def test_a_corner_is_missing(self):
        for corner in FULL_SQUARE:
            self.assert_none(SQUARE, [place for place in FULL_SQUARE if place != corner])

    def test_no_key_stands_there(self):
        self.assert_none(NO_KEY, [(0, 0)])
        self.assert_none((1, 1, ()), [(0, 0)])
        self.assert_none(CORNER, [(1, 1)])
        self.assert_none(CORNER, [(0, 0), (1, 1)])

    def test_a_lit_blank_too_many(self):
        board = (3, 3, ((0, 0), (0, 1), (1, 0), (2, 2)))
        chords_of(board, FULL_SQUARE + [(2, 2)])
        self.assert_none(board, FULL_SQUARE + [(1, 2), (2, 2)])

    def test_no_crossing_of_the_board(self):
        for place in ((2, 0), (0, 2), (-1, 0), (0, -1), (HUGE, HUGE), (-HUGE, 0)):
            self.assert_none(SQUARE, [place])
            self.assert_none(SQUARE, FULL_SQUARE + [place])
            self.assert_none(SQUARE, [place] + FULL_SQUARE)

    def test_not_rising(self):
        self.assert_none(SQUARE, FULL_SQUARE[::-1])
        self.assert_none(SQUARE, [(1, 1), (0, 0)])
        self.assert_none(SQUARE, [(0, 0), (1, 0), (0, 1), (1, 1)])

    def test_a_crossing_twice(self):
        self.assert_none(SQUARE, [(0, 0), (0, 0)])
        self.assert_none(SQUARE, FULL_SQUARE + [(1, 1)])
        self.assert_none(SQUARE, [(0, 0)] * 100)

    def test_each_list_that_no_chord_gives(self):
        board = (2, 2, ((1, 1), (0, 0), (0, 1)))
        given = chords_by_reading(board)
        for many in range(16):
            reading = [place for at, place in enumerate(FULL_SQUARE) if many >> at & 1]
            if tuple(reading) in given:
                self.assertEqual(chords_of(board, reading), given[tuple(reading)])
            else:
                self.assert_none(board, reading)


class InterfaceTest(unittest.TestCase):
    def test_each_function_is_defined_in_its_file(self):
        for name in ("chords_of", "sure_keys", "open_keys"):
            self.assertEqual(getattr(readings, name).__module__, "ghostkeys.readings")

    def test_names_of_arguments(self):
        for call in (chords_of, sure_keys, open_keys):
            call(board=SQUARE, reading=lit(SQUARE, (0, 1, 2)))


if __name__ == "__main__":
    unittest.main()
