"""Nothing handed in is changed or kept, what is told is new, and its kinds (point 1)."""

import unittest
from copy import deepcopy

from ghostkeys.errors import BadChord, BadWish, NoReading
from ghostkeys.following import follow
from ghostkeys.laying import fewest, laid
from ghostkeys.papers import is_paper
from ghostkeys.pieces import blanks, ghosts, lit, seen, twin, unsure
from ghostkeys.readings import chords_of, open_keys, sure_keys
from ghostkeys.texts import drawn, read_board
from tests.reference import CORNER, MIXED, RING, SQUARE, all_crossings

WHOLE = all_crossings(2, 2)
PAPER = laid(4, [(0, 1, 2)], 2, 2)[1]

CALLS = (
    (lit, SQUARE, (0, 1, 2)),
    (seen, SQUARE, (0, 1, 2)),
    (ghosts, SQUARE, (0, 1, 2)),
    (blanks, CORNER, (0, 1, 2)),
    (twin, SQUARE, (0, 1, 2)),
    (twin, SQUARE, (0, 1, 2, 3)),
    (unsure, SQUARE, [(), (0, 1, 2), (1, 2, 3)]),
    (chords_of, SQUARE, WHOLE),
    (sure_keys, CORNER, WHOLE),
    (open_keys, SQUARE, WHOLE),
    (lit, RING, tuple(range(11))),
    (blanks, MIXED, tuple(range(12))),
    (follow, SQUARE, [[(0, 0)], [(0, 0), (0, 1)], WHOLE, WHOLE]),
    (fewest, 4, [(0, 1, 2), ()]),
    (fewest, 4, [(0, 1)]),
    (laid, 4, [(0, 1, 2)], 2, 2),
    (laid, 4, [(0, 1)], 2, 2),
    (is_paper, 4, [(0, 1, 2)], 2, 2, PAPER),
    (is_paper, 4, [(0, 1)], 2, 2, PAPER),
    (drawn, SQUARE),
    (read_board, "ab\n.c"),
)


def parts_of(told):
    """All that is told, one thing behind the other, with what is in it."""
    found = [told]
    if isinstance(told, (list, tuple)):
        for part in told:
            found += parts_of(part)
    return found


def lists_in(told):
    return [part for part in parts_of(told) if isinstance(part, list)]


class HandedInTest(unittest.TestCase):
    def test_what_is_handed_in_stays_as_it_was(self):
        for call, *handed in CALLS:
            before = deepcopy(handed)
            call(*handed)
            self.assertEqual(handed, before, call.__name__)

    def test_what_is_refused_stays_as_it_was(self):
        chords = [(0, 1, 2), (2, 1)]
        with self.assertRaises(BadChord):
            unsure(SQUARE, chords)
        self.assertEqual(chords, [(0, 1, 2), (2, 1)])
        for call in (chords_of, sure_keys, open_keys):
            reading = WHOLE[::-1]
            with self.assertRaises(NoReading):
                call(SQUARE, reading)
            self.assertEqual(reading, WHOLE[::-1])
        readings = [[(0, 0)], [], WHOLE[::-1], []]
        with self.assertRaises(NoReading):
            follow(SQUARE, readings)
        self.assertEqual(readings, [[(0, 0)], [], WHOLE[::-1], []])
        for call, sizes in ((laid, (2, 2)), (fewest, ()), (is_paper, (2, 2, []))):
            chords = [(0, 1), (2, 1)]
            with self.assertRaises(BadWish):
                call(3, chords, *sizes)
            self.assertEqual(chords, [(0, 1), (2, 1)])

    def test_a_list_may_be_changed_behind_the_answer(self):
        chords = [(0, 1, 2)]
        told = unsure(SQUARE, chords)
        chords.insert(0, (0,))
        self.assertEqual(told[0], 0)
        self.assertEqual(unsure(SQUARE, chords)[0], 1)
        chords.clear()
        self.assertIsNone(unsure(SQUARE, chords))

        reading = list(WHOLE)
        told = chords_of(SQUARE, reading)
        reading[:] = [(0, 1)]
        self.assertEqual(len(told), 5)
        self.assertEqual(chords_of(SQUARE, reading), [(1,)])
        self.assertEqual(sure_keys(SQUARE, reading), [1])
        self.assertEqual(open_keys(SQUARE, reading), [])

    def test_readings_and_wishes_may_be_changed_behind_the_answer(self):
        readings = [[(0, 0)], [(0, 0), (0, 1)]]
        told = follow(SQUARE, readings)
        readings[1][:] = []
        readings.append([(1, 1)])
        self.assertEqual(told, [([0], []), ([0, 1], [])])
        self.assertEqual(follow(SQUARE, readings), [([0], []), ([], []), ([3], [])])

        chords = [(0, 1, 2)]
        none, paper = laid(4, chords, 2, 2)
        best = fewest(4, chords)
        kept = deepcopy((paper, best))
        chords[0] = (0, 1)
        self.assertEqual((none, (paper, best)), ("none", kept))
        self.assertEqual(laid(4, chords, 2, 2)[0], "laid")
        self.assertEqual(fewest(4, chords)[:2], (2, 2))
        self.assertIs(is_paper(4, chords, 2, 2, paper), False)
        chords[0] = (0, 1, 3)
        self.assertIs(is_paper(4, chords, 2, 2, paper), True)
        paper[0][1].pop()
        self.assertIs(is_paper(4, chords, 2, 2, paper), False)


class ToldTest(unittest.TestCase):
    def test_changing_what_was_told_changes_no_later_answer(self):
        for call, *handed in CALLS:
            first = call(*handed)
            kept = deepcopy(first)
            again = call(*handed)
            for part in lists_in(first):
                part.append("more")
                part[0] = "other"
            self.assertEqual(again, kept, call.__name__)
            self.assertEqual(call(*handed), kept, call.__name__)

    def test_no_list_is_told_twice(self):
        for call, *handed in CALLS:
            told = lists_in([call(*handed), call(*handed)])
            self.assertEqual(len({id(part) for part in told}), len(told), call.__name__)
            for part in lists_in(handed):
                self.assertFalse(any(part is other for other in told), call.__name__)

    def test_changing_a_paper_changes_no_other_part_of_it(self):
        for call, *handed in CALLS:
            for number in range(len(lists_in(call(*handed)))):
                told = call(*handed)
                lists = lists_in(told)
                lists[number].append("more")
                marked = [at for at, part in enumerate(lists) if part[-1:] == ["more"]]
                self.assertEqual(marked, [number], call.__name__)

    def test_the_same_is_told_whatever_was_asked_between(self):
        first = [call(*handed) for call, *handed in CALLS]
        again = [call(*handed) for call, *handed in CALLS[::-1]]
        self.assertEqual(first, again[::-1])

    def test_what_is_told_is_not_what_was_handed_in(self):
        reading = [(0, 0)]
        told = lit(SQUARE, (0,))
        self.assertEqual(chords_of(SQUARE, reading), [(0,)])
        told.append((1, 1))
        reading.append((1, 1))
        self.assertEqual(lit(SQUARE, (0,)), [(0, 0)])
        self.assertEqual(chords_of(SQUARE, reading), [(0, 3)])

    def test_empty_answers_are_new_too(self):
        for call, handed in ((lit, ()), (seen, ()), (ghosts, ()), (blanks, ()), (sure_keys, []), (open_keys, [])):
            call(SQUARE, handed).append("more")
            self.assertEqual(call(SQUARE, handed), [])
        chords_of(SQUARE, []).append("more")
        self.assertEqual(chords_of(SQUARE, []), [()])
        follow(SQUARE, []).append("more")
        self.assertEqual(follow(SQUARE, []), [])
        told = follow(SQUARE, [[], []])
        told[0][0].append("more")
        self.assertEqual(told, [(["more"], []), ([], [])])
        self.assertEqual(follow(SQUARE, [[], []]), [([], []), ([], [])])
        fewest(1, [])[3].append("more")
        self.assertEqual(fewest(1, [])[3], [])
        laid(2, [], 1, 1)[1][0][1].append("more")
        self.assertEqual(laid(2, [], 1, 1), ("none", [("on", [])]))

    def test_kinds(self):
        lists = (lit, seen, ghosts, blanks, chords_of, sure_keys, open_keys, follow)
        kinds = {call: list for call in lists} | {is_paper: bool, drawn: str}
        for call, *handed in CALLS:
            told = call(*handed)
            self.assertIs(type(told), kinds.get(call, tuple), call.__name__)
            inner = (int, tuple, list, str) if call in (follow, laid, fewest) else (int, tuple)
            for part in parts_of(told)[1:]:
                self.assertIn(type(part), inner, call.__name__)


if __name__ == "__main__":
    unittest.main()
