"""Nothing handed in is changed or kept, what is told is new, and its kinds (point 1)."""

import unittest
from copy import deepcopy

from ghostkeys.errors import BadChord, NoReading
from ghostkeys.pieces import blanks, ghosts, lit, seen, twin, unsure
from ghostkeys.readings import chords_of, open_keys, sure_keys
from tests.reference import CORNER, MIXED, RING, SQUARE, all_crossings

WHOLE = all_crossings(2, 2)

CALLS = (
    (lit, SQUARE, (0, 1, 2)),
    (seen, SQUARE, (0, 1, 2)),
    (ghosts, SQUARE, (0, 1, 2)),
    (blanks, CORNER, (0, 1, 2)),
    (twin, SQUARE, (0, 1, 2)),
    (twin, SQUARE, (0, 1, 2, 3)),
    (unsure, SQUARE, [(), (0, 1, 2), (1, 2, 3)]),
    (chords_of, SQUARE, WHOLE),
    (sure_keys, CORNER, WHOLE),
    (open_keys, SQUARE, WHOLE),
    (lit, RING, tuple(range(11))),
    (blanks, MIXED, tuple(range(12))),
)


def parts_of(told):
    """All that is told, one thing behind the other, with what is in it."""
    found = [told]
    if isinstance(told, (list, tuple)):
        for part in told:
            found += parts_of(part)
    return found


class HandedInTest(unittest.TestCase):
    def test_what_is_handed_in_stays_as_it_was(self):
        for call, board, told in CALLS:
            before = deepcopy((board, told))
            call(board, told)
            self.assertEqual((board, told), before, call.__name__)

    def test_what_is_refused_stays_as_it_was(self):
        chords = [(0, 1, 2), (2, 1)]
        with self.assertRaises(BadChord):
            unsure(SQUARE, chords)
        self.assertEqual(chords, [(0, 1, 2), (2, 1)])
        for call in (chords_of, sure_keys, open_keys):
            reading = WHOLE[::-1]
            with self.assertRaises(NoReading):
                call(SQUARE, reading)
            self.assertEqual(reading, WHOLE[::-1])

    def test_a_list_may_be_changed_behind_the_answer(self):
        chords = [(0, 1, 2)]
        told = unsure(SQUARE, chords)
        chords.insert(0, (0,))
        self.assertEqual(told[0], 0)
        self.assertEqual(unsure(SQUARE, chords)[0], 1)
        chords.clear()
        self.assertIsNone(unsure(SQUARE, chords))

        reading = list(WHOLE)
        told = chords_of(SQUARE, reading)
        reading[:] = [(0, 1)]
        self.assertEqual(len(told), 5)
        self.assertEqual(chords_of(SQUARE, reading), [(1,)])
        self.assertEqual(sure_keys(SQUARE, reading), [1])
        self.assertEqual(open_keys(SQUARE, reading), [])


class ToldTest(unittest.TestCase):
    def test_changing_what_was_told_changes_no_later_answer(self):
        for call, board, handed in CALLS:
            first = call(board, handed)
            kept = deepcopy(first)
            if isinstance(first, list):
                again = call(board, handed)
                self.assertIsNot(first, again)
                first.append("more")
                first[0] = "other"
                self.assertEqual(again, kept, call.__name__)
            self.assertEqual(call(board, handed), kept, call.__name__)

    def test_what_is_told_is_not_what_was_handed_in(self):
        reading = [(0, 0)]
        told = lit(SQUARE, (0,))
        self.assertEqual(chords_of(SQUARE, reading), [(0,)])
        told.append((1, 1))
        reading.append((1, 1))
        self.assertEqual(lit(SQUARE, (0,)), [(0, 0)])
        self.assertEqual(chords_of(SQUARE, reading), [(0, 3)])

    def test_empty_answers_are_new_too(self):
        for call, handed in ((lit, ()), (seen, ()), (ghosts, ()), (blanks, ()), (sure_keys, []), (open_keys, [])):
            call(SQUARE, handed).append("more")
            self.assertEqual(call(SQUARE, handed), [])
        chords_of(SQUARE, []).append("more")
        self.assertEqual(chords_of(SQUARE, []), [()])

    def test_kinds(self):
        lists = (lit, seen, ghosts, blanks, chords_of, sure_keys, open_keys)
        for call, board, handed in CALLS:
            told = call(board, handed)
            self.assertIs(type(told), list if call in lists else tuple, call.__name__)
            for part in parts_of(told)[1:]:
                self.assertIn(type(part), (int, tuple), call.__name__)


if __name__ == "__main__":
    unittest.main()
