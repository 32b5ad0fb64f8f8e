"""What readings one behind another tell (point 8)."""

import unittest
from itertools import product

from ghostkeys import following
from ghostkeys.errors import BadBoard, NoReading
from ghostkeys.following import follow
from ghostkeys.pieces import lit
from ghostkeys.readings import chords_of
from tests.reference import (
    BLOCK,
    CORNER,
    MIXED,
    NO_KEY,
    ONE_KEY,
    RING,
    SQUARE,
    all_chords,
    all_crossings,
    chords_by_reading,
    walked_lit,
)

WHOLE = all_crossings(2, 2)
HUGE = 10 ** 60 - 1


def histories(board, moments):
    """All that may go on over so many moments: lists of chords, one for each moment."""
    chords = all_chords(len(board[2]))
    found = [[()]]
    for _ in range(moments):
        found = [
            [*history, chord]
            for history in found
            for chord in chords
            if len(set(history[-1]) ^ set(chord)) <= 1
        ]
    return [history[1:] for history in found]


def chords_behind(board, moments):
    """For each tuple of at most so many readings that something gives, the chords pressed at its last moment."""
    lit_by = {chord: tuple(walked_lit(board, chord)) for chord in all_chords(len(board[2]))}
    found = {}
    for many in range(1, moments + 1):
        for history in histories(board, many):
            readings = tuple(lit_by[chord] for chord in history)
            found.setdefault(readings, set()).add(history[-1])
    return found


def known_of(board, chords):
    keys = range(len(board[2]))
    sure = [key for key in keys if all(key in chord for chord in chords)]
    return (sure, [key for key in keys if key not in sure and any(key in chord for chord in chords)])


class FollowTest(unittest.TestCase):
    def test_no_readings_at_all(self):
        for board in (ONE_KEY, NO_KEY, SQUARE, RING):
            self.assertEqual(follow(board, []), [])

    def test_nothing_is_pressed(self):
        for board in (ONE_KEY, NO_KEY, SQUARE, RING):
            self.assertEqual(follow(board, [[]]), [([], [])])
            self.assertEqual(follow(board, [[], [], []]), [([], [])] * 3)

    def test_a_first_reading_of_one_key(self):
        self.assertEqual(follow(SQUARE, [[(1, 0)]]), [([2], [])])
        self.assertEqual(follow(ONE_KEY, [[(0, 0)]]), [([0], [])])

    def test_a_key_goes_down_and_one_goes_up(self):
        readings = [[(0, 0)], [(0, 0), (1, 1)], [(1, 1)], [], [(0, 1)]]
        told = [([0], []), ([0, 3], []), ([3], []), ([], []), ([1], [])]
        self.assertEqual(follow(SQUARE, readings), told)

    def test_the_same_reading_again(self):
        self.assertEqual(follow(ONE_KEY, [[], [(0, 0)], [(0, 0)], []]), [([], []), ([0], []), ([0], []), ([], [])])

    def test_only_some_chords_are_left_by_what_came_ahead(self):
        # The third key closes the square: keys 0 and 1 are down, and of 2 and 3 one went down.
        readings = [[(0, 0)], [(0, 0), (0, 1)], WHOLE]
        self.assertEqual(len(chords_of(SQUARE, WHOLE)), 5)
        self.assertEqual(follow(SQUARE, readings), [([0], []), ([0, 1], []), ([0, 1], [2, 3])])

    def test_less_is_known_when_keys_may_have_gone_up_unseen(self):
        # Of three keys none goes up unseen; so the fourth one must have gone down first.
        readings = [[(0, 0)], [(0, 0), (0, 1)], WHOLE, WHOLE, WHOLE, WHOLE]
        told = follow(SQUARE, readings)
        self.assertEqual(told[2:], [([0, 1], [2, 3])] * 2 + [([], [0, 1, 2, 3])] * 2)

    def test_readings_behind_a_moment_tell_nothing_of_it(self):
        # Behind the last reading it would be known that key 3 closed the square.
        readings = [[(0, 0)], [(0, 0), (0, 1)], WHOLE, [(0, 1), (1, 1)]]
        told = [([0], []), ([0, 1], []), ([0, 1], [2, 3]), ([1, 3], [])]
        for many in range(5):
            self.assertEqual(follow(SQUARE, readings[:many]), told[:many])

    def test_a_key_stays_sure_beside_ghosts(self):
        board = (3, 3, ((1, 1), (2, 2), (0, 0), (1, 0), (0, 1)))
        square = WHOLE + [(2, 2)]
        readings = [[(2, 2)], [(1, 1), (2, 2)], [(0, 1), (1, 1), (2, 2)], square]
        told = [([1], []), ([0, 1], []), ([0, 1, 4], []), ([0, 1, 4], [2, 3])]
        self.assertEqual(follow(board, readings), told)

    def test_whatever_goes_on_over_some_moments(self):
        other = (2, 3, ((1, 2), (0, 0), (0, 2), (1, 0)))
        for board, moments in ((ONE_KEY, 5), (NO_KEY, 3), (CORNER, 4), (SQUARE, 5), (other, 5)):
            self.assert_all(board, moments)

    def assert_all(self, board, moments):
        behind = chords_behind(board, moments)
        for readings in behind:
            told = [known_of(board, behind[readings[:many]]) for many in range(1, len(readings) + 1)]
            self.assertEqual(follow(board, [list(reading) for reading in readings]), told, readings)

    def test_twelve_keys(self):
        chord = ()
        readings = []
        for key in range(11):
            chord = (*chord, key)
            readings.append(lit(RING, chord))
        told = follow(RING, readings)
        self.assertEqual(told[:10], [(list(range(key + 1)), []) for key in range(10)])
        self.assertEqual(told[10], (list(range(10)), [10, 11]))
        readings += [readings[-1]] * 2
        told = follow(RING, readings)
        self.assertEqual(told[11:], [(list(range(10)), [10, 11]), ([], list(range(12)))])

    def test_a_hundred_readings(self):
        rising = [lit(BLOCK, tuple(range(many))) for many in range(1, 13)]
        readings = rising + [all_crossings(3, 4)] * 88
        told = follow(BLOCK, readings)
        self.assertEqual(len(told), 100)
        self.assertEqual(told[0], ([0], []))
        self.assertEqual(told[-1], ([], list(range(12))))

    def test_single_keys_in_no_order(self):
        for key, place in enumerate(MIXED[2]):
            self.assertEqual(follow(MIXED, [[], [place], []]), [([], []), ([key], []), ([], [])])


class NoReadingTest(unittest.TestCase):
    def assert_none(self, board, readings, moment):
        with self.assertRaises(NoReading, msg=readings) as caught:
            follow(board, readings)
        self.assertEqual(caught.exception.moment, moment, readings)

    def test_a_first_reading_of_two_keys(self):
        self.assert_none(SQUARE, [[(0, 0), (0, 1)]], 0)
        self.assert_none(SQUARE, [[(0, 0), (1, 1)]], 0)
        self.assert_none(SQUARE, [WHOLE], 0)

    def test_two_keys_at_once(self):
        self.assert_none(SQUARE, [[], [(0, 0), (1, 1)]], 1)
        self.assert_none(SQUARE, [[(0, 0)], [(1, 1)]], 1)
        self.assert_none(SQUARE, [[(0, 0)], WHOLE], 1)
        self.assert_none(SQUARE, [[(0, 0)], [(0, 0), (1, 1)], []], 2)
        self.assert_none(SQUARE, [[(0, 0)], [(0, 0), (0, 1)], WHOLE, []], 3)

    def test_a_reading_that_no_chord_gives(self):
        for wrong in (WHOLE[:3], WHOLE[::-1], [(2, 0)], [(HUGE, -HUGE)], [(0, 0), (0, 0)], [(0, 0)] * 100):
            self.assert_none(SQUARE, [wrong], 0)
            self.assert_none(SQUARE, [[], [(0, 0)], wrong], 2)
            self.assert_none(SQUARE, [[], [(0, 0)], wrong, wrong, []], 2)
        self.assert_none(NO_KEY, [[], [(0, 0)]], 1)

    def test_the_first_moment_of_several(self):
        self.assert_none(SQUARE, [[], WHOLE, [(5, 5)]], 1)
        self.assert_none(SQUARE, [[]] * 99 + [WHOLE], 99)

    def test_whatever_readings_stand_behind_each_other(self):
        for board, moments in ((CORNER, 3), (SQUARE, 3), ((1, 2, ((0, 1),)), 5)):
            behind = chords_behind(board, moments)
            for readings in product(chords_by_reading(board), repeat=moments):
                wrong = [at for at in range(moments) if readings[:at + 1] not in behind]
                if wrong:
                    self.assert_none(board, [list(reading) for reading in readings], wrong[0])
                else:
                    follow(board, [list(reading) for reading in readings])

    def test_the_board_ahead_of_the_readings(self):
        for board, value in (((0, 2, ()), ("lines", 0)), ((2, 2, ((0, 0), (0, 0))), ("keys", 1))):
            for readings in ([], [WHOLE], [[(9, 9)], []]):
                with self.assertRaises(BadBoard) as caught:
                    follow(board, readings)
                self.assertEqual((caught.exception.word, caught.exception.number), value)


class InterfaceTest(unittest.TestCase):
    def test_it_is_defined_in_its_file(self):
        self.assertEqual(following.follow.__module__, "ghostkeys.following")

    def test_names_of_arguments(self):
        self.assertEqual(follow(board=SQUARE, readings=[[]]), [([], [])])

    def test_kinds(self):
        told = follow(SQUARE, [[(0, 0)], [(0, 0), (0, 1)], WHOLE])
        self.assertIs(type(told), list)
        for pair in told:
            self.assertIs(type(pair), tuple)
            self.assertEqual([type(part) for part in pair], [list, list])
            for key in pair[0] + pair[1]:
                self.assertIs(type(key), int)


if __name__ == "__main__":
    unittest.main()
