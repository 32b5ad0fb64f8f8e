"""What is seen of a chord (points 4 and 5), and sure chords (point 6)."""

import unittest

from ghostkeys import pieces
from ghostkeys.pieces import blanks, ghosts, lit, seen, twin, unsure
from tests.reference import (
    BLOCK,
    CORNER,
    MIXED,
    NAMED_BOARDS,
    NO_KEY,
    ONE_KEY,
    RING,
    SQUARE,
    all_chords,
    all_crossings,
    chords_by_reading,
    small_boards,
    walked_lit,
)


class SeenTest(unittest.TestCase):
    def assert_told(self, board, chord, crossings, keys, unpressed, empty):
        self.assertEqual(lit(board, chord), crossings)
        self.assertEqual(seen(board, chord), keys)
        self.assertEqual(ghosts(board, chord), unpressed)
        self.assertEqual(blanks(board, chord), empty)

    def test_one_row_and_one_column(self):
        self.assert_told((1, 1, ()), (), [], [], [], [])
        self.assert_told(ONE_KEY, (), [], [], [], [])
        self.assert_told(ONE_KEY, (0,), [(0, 0)], [0], [], [])

    def test_an_empty_chord_lights_nothing(self):
        for board in (NO_KEY, SQUARE, CORNER, BLOCK, RING, MIXED, (6, 6, ())):
            self.assert_told(board, (), [], [], [], [])

    def test_a_key_alone_lights_its_own_crossing(self):
        for key, place in enumerate(MIXED[2]):
            self.assert_told(MIXED, (key,), [place], [key], [], [])

    def test_keys_that_share_no_line_join_nothing_else(self):
        self.assert_told(SQUARE, (0, 3), [(0, 0), (1, 1)], [0, 3], [], [])

    def test_a_ghost_in_the_fourth_corner(self):
        for ghost in range(4):
            chord = tuple(key for key in range(4) if key != ghost)
            self.assert_told(SQUARE, chord, all_crossings(2, 2), [0, 1, 2, 3], [ghost], [])

    def test_a_blank_in_the_fourth_corner(self):
        self.assert_told(CORNER, (0, 1, 2), all_crossings(2, 2), [0, 1, 2], [], [(1, 1)])

    def test_a_row_joins_its_columns_and_lights_no_other_row(self):
        self.assert_told(SQUARE, (0, 1), [(0, 0), (0, 1)], [0, 1], [], [])
        self.assert_told(SQUARE, (1, 3), [(0, 1), (1, 1)], [1, 3], [], [])

    def test_ghosts_and_blanks_in_one_piece(self):
        board = (3, 3, ((2, 2), (0, 0), (1, 0), (1, 2), (0, 2)))
        self.assert_told(
            board,
            (1, 2, 3),
            [(0, 0), (0, 2), (1, 0), (1, 2)],
            [1, 2, 3, 4],
            [4],
            [],
        )
        self.assert_told(
            board,
            (0, 1, 4),
            [(0, 0), (0, 2), (2, 0), (2, 2)],
            [0, 1, 4],
            [],
            [(2, 0)],
        )
        self.assert_told(
            board,
            (0, 2, 4),
            [(0, 2), (1, 0), (2, 2)],
            [0, 2, 4],
            [],
            [],
        )
        self.assert_told(
            board,
            (0, 1, 2, 4),
            all_crossings(3, 3)[:1] + [(0, 2), (1, 0), (1, 2), (2, 0), (2, 2)],
            [0, 1, 2, 3, 4],
            [3],
            [(2, 0)],
        )

    def test_two_pieces_stay_apart(self):
        board = (4, 4, ((0, 0), (0, 1), (1, 0), (2, 2), (2, 3), (3, 2), (3, 3)))
        self.assert_told(
            board,
            (0, 1, 2, 3, 4, 5),
            [(0, 0), (0, 1), (1, 0), (1, 1), (2, 2), (2, 3), (3, 2), (3, 3)],
            [0, 1, 2, 3, 4, 5, 6],
            [6],
            [(1, 1)],
        )

    def test_joined_over_ten_others(self):
        off_ring = [place for place in all_crossings(6, 6) if place not in RING[2]]
        self.assert_told(RING, tuple(range(11)), all_crossings(6, 6), list(range(12)), [11], off_ring)
        self.assert_told(RING, tuple(range(1, 12)), all_crossings(6, 6), list(range(12)), [0], off_ring)

    def test_pieces_that_a_late_key_joins(self):
        board = (6, 6, ((0, 0), (1, 1), (2, 2), (3, 3), (0, 1), (2, 3), (1, 2)))
        upper = [(row, column) for row in range(4) for column in range(4)]
        self.assertEqual(lit(board, (0, 1, 2, 3, 4, 5, 6)), upper)
        self.assertEqual(
            lit(board, (0, 1, 2, 3, 4, 5)),
            [(0, 0), (0, 1), (1, 0), (1, 1), (2, 2), (2, 3), (3, 2), (3, 3)],
        )

    def test_a_chord_of_all_keys_has_no_ghosts(self):
        for board in (*NAMED_BOARDS, BLOCK, RING, MIXED):
            whole = tuple(range(len(board[2])))
            self.assertEqual(seen(board, whole), list(whole))
            self.assertEqual(ghosts(board, whole), [])
            self.assertEqual(lit(board, whole), walked_lit(board, whole))

    def test_all_chords_of_small_boards(self):
        for board in small_boards():
            for chord in all_chords(len(board[2])):
                self.assert_as_walked(board, chord)

    def test_all_chords_of_large_boards(self):
        for board in (MIXED, BLOCK):
            for chord in all_chords(12)[::3]:
                self.assert_as_walked(board, chord)

    def assert_as_walked(self, board, chord):
        places = board[2]
        crossings = walked_lit(board, chord)
        self.assert_told(
            board,
            chord,
            crossings,
            [key for key in range(len(places)) if places[key] in crossings],
            [key for key in range(len(places)) if places[key] in crossings and key not in chord],
            [crossing for crossing in crossings if crossing not in places],
        )


class FillsOutTest(unittest.TestCase):
    BOARDS = (SQUARE, CORNER, RING, MIXED)

    def test_three_lit_corners_light_the_fourth(self):
        for board in self.BOARDS:
            for chord in all_chords(len(board[2]))[::5]:
                crossings = set(lit(board, chord))
                for row, column in crossings:
                    across = [other for at, other in crossings if at == row]
                    along = [other for other, at in crossings if at == column]
                    corners = {(low, side) for low in along for side in across}
                    self.assertLessEqual(corners, crossings)

    def test_more_pressed_keys_light_no_less(self):
        for board in self.BOARDS:
            many = len(board[2])
            for chord in all_chords(many)[::17]:
                crossings = set(lit(board, chord))
                for key in range(many):
                    more = tuple(sorted({*chord, key}))
                    self.assertLessEqual(crossings, set(lit(board, more)))

    def test_nothing_is_lit_on_a_line_without_a_pressed_key(self):
        for board in self.BOARDS:
            for chord in all_chords(len(board[2]))[::5]:
                rows = {board[2][key][0] for key in chord}
                columns = {board[2][key][1] for key in chord}
                for row, column in lit(board, chord):
                    self.assertIn(row, rows)
                    self.assertIn(column, columns)


class SureTest(unittest.TestCase):
    def assert_twin(self, board, chord, other):
        self.assertIs(type(other), tuple)
        self.assertNotEqual(other, chord)
        self.assertEqual(list(other), sorted(set(other)))
        self.assertTrue(set(other) <= set(range(len(board[2]))), other)
        self.assertEqual(walked_lit(board, other), walked_lit(board, chord))

    def assert_twins_of_all_chords(self, board):
        for chords in chords_by_reading(board).values():
            for chord in chords:
                other = twin(board, chord)
                if len(chords) == 1:
                    self.assertIsNone(other, (board, chord))
                else:
                    self.assert_twin(board, chord, other)

    def test_sure_chords(self):
        for board, chord in (
            (ONE_KEY, ()),
            (ONE_KEY, (0,)),
            (NO_KEY, ()),
            (SQUARE, (0, 3)),
            (SQUARE, (0, 1)),
            (CORNER, (0, 1, 2)),
            (RING, tuple(range(10))),
            (MIXED, ()),
        ):
            self.assertIsNone(twin(board, chord), (board, chord))

    def test_a_chord_with_a_ghost(self):
        others = [(0, 1, 2, 3), (0, 1, 3), (0, 2, 3), (1, 2, 3)]
        self.assertIn(twin(SQUARE, (0, 1, 2)), others)
        self.assert_twin(SQUARE, (1, 2, 3), twin(SQUARE, (1, 2, 3)))
        self.assert_twin(RING, tuple(range(11)), twin(RING, tuple(range(11))))

    def test_a_chord_without_ghosts_of_which_a_key_can_be_left_out(self):
        whole = (0, 1, 2, 3)
        self.assertEqual(ghosts(SQUARE, whole), [])
        self.assert_twin(SQUARE, whole, twin(SQUARE, whole))
        self.assert_twin(RING, tuple(range(12)), twin(RING, tuple(range(12))))

    def test_only_a_later_key_can_be_left_out(self):
        board = (3, 3, ((2, 2), (0, 0), (0, 1), (1, 0), (1, 1)))
        self.assert_twin(board, (0, 1, 2, 3, 4), twin(board, (0, 1, 2, 3, 4)))

    def test_a_blank_alone_makes_no_chord_unsure(self):
        self.assertEqual(blanks(CORNER, (0, 1, 2)), [(1, 1)])
        self.assertIsNone(twin(CORNER, (0, 1, 2)))

    def test_all_chords_of_small_boards(self):
        for board in small_boards():
            self.assert_twins_of_all_chords(board)

    def test_all_chords_of_large_boards(self):
        for board in (RING, MIXED):
            self.assert_twins_of_all_chords(board)

    def test_sure_just_where_no_key_can_be_left_out_and_no_ghost_is(self):
        for chord in all_chords(12)[::7]:
            shorter = [chord[:at] + chord[at + 1:] for at in range(len(chord))]
            spared = [other for other in shorter if lit(BLOCK, other) == lit(BLOCK, chord)]
            sure = not spared and not ghosts(BLOCK, chord)
            self.assertEqual(twin(BLOCK, chord) is None, sure, chord)


class UnsureTest(unittest.TestCase):
    def test_none_where_all_are_sure(self):
        self.assertIsNone(unsure(SQUARE, []))
        self.assertIsNone(unsure(NO_KEY, [()]))
        self.assertIsNone(unsure(SQUARE, [(), (0,), (0, 3), (0, 3), (1, 2)]))
        self.assertIsNone(unsure(SQUARE, [()] * 100))

    def test_the_first_that_is_not_sure(self):
        for number in range(4):
            chords = [(), (3,), (1, 2)][:number] + [(0, 2, 3), (0, 1), (0, 1, 2, 3)]
            told = unsure(SQUARE, chords)
            self.assertIs(type(told), tuple)
            self.assertEqual(told[0], number)
            self.assertNotEqual(told[1], (0, 2, 3))
            self.assertEqual(walked_lit(SQUARE, told[1]), all_crossings(2, 2))

    def test_a_twin_may_stand_in_the_list_itself(self):
        told = unsure(SQUARE, [(0, 1, 2), (0, 1, 2, 3)])
        self.assertEqual(told[0], 0)
        self.assertNotEqual(told[1], (0, 1, 2))

    def test_the_last_of_a_hundred(self):
        number, other = unsure(SQUARE, [(0, 1)] * 99 + [(0, 1, 2, 3)])
        self.assertEqual(number, 99)
        self.assertEqual(walked_lit(SQUARE, other), all_crossings(2, 2))


class InterfaceTest(unittest.TestCase):
    def test_each_function_is_defined_in_its_file(self):
        for name in ("lit", "seen", "ghosts", "blanks", "twin", "unsure"):
            self.assertEqual(getattr(pieces, name).__module__, "ghostkeys.pieces")

    def test_names_of_arguments(self):
        for call in (lit, seen, ghosts, blanks, twin):
            call(board=SQUARE, chord=(0, 1, 2))
        unsure(board=SQUARE, chords=[(0, 1, 2)])


if __name__ == "__main__":
    unittest.main()
