"""Keys laid so that all chords of a wish are sure, and the fewest lines for it (points 10 and 12)."""

import unittest
from itertools import combinations

from ghostkeys import laying
from ghostkeys.laying import fewest, laid
from ghostkeys.papers import is_paper
from ghostkeys.pieces import twin, unsure
from tests.laying_reference import WISHES, all_sure, chords_up_to, wished_board


class LayingTest(unittest.TestCase):
    def assert_board(self, many, chords, rows, columns, places):
        self.assertIs(type(places), tuple)
        self.assertEqual(len(places), many)
        for place in places:
            self.assertEqual([type(place), *map(type, place)], [tuple, int, int])
        # A board that cannot be is refused here.
        self.assertIsNone(unsure((rows, columns, places), chords))
        self.assertTrue(all_sure((rows, columns, places), chords))

    def assert_paper(self, many, chords, rows, columns, paper):
        self.assertIs(type(paper), list)
        self.assertIs(is_paper(many, chords, rows, columns, paper), True)

    def assert_laid(self, many, chords, rows, columns):
        told = laid(many, chords, rows, columns)
        self.assertEqual((type(told), len(told), told[0]), (tuple, 2, "laid"), (many, chords, rows, columns))
        self.assert_board(many, chords, rows, columns, told[1])

    def assert_not_laid(self, many, chords, rows, columns):
        told = laid(many, chords, rows, columns)
        self.assertEqual((type(told), len(told), told[0]), (tuple, 2, "none"), (many, chords, rows, columns))
        self.assert_paper(many, chords, rows, columns, told[1])

    def assert_fewest(self, many, chords, rows, columns):
        told = fewest(many, chords)
        self.assertIs(type(told), tuple)
        self.assertEqual(told[:2], (rows, columns), (many, chords))
        _, _, places, papers = told
        self.assert_board(many, chords, rows, columns, places)
        self.assertIs(type(papers), list)
        lines = rows + columns - 1
        counts = [(some, lines - some) for some in range(1, 7) if 1 <= lines - some <= 6]
        self.assertEqual([thing[:2] for thing in papers], counts)
        for thing in papers:
            self.assertEqual((type(thing), len(thing)), (tuple, 3))
            self.assert_paper(many, chords, *thing)


class LaidTest(LayingTest):
    def test_one_key(self):
        for rows, columns in ((1, 1), (1, 6), (6, 1), (6, 6)):
            for chords in ([], [()], [(0,)], [(0,), ()] * 4):
                self.assertEqual(laid(1, chords, rows, columns), ("laid", ((0, 0),)))

    def test_a_wish_of_no_chord_needs_only_room(self):
        for many in range(1, 7):
            for rows in range(1, 5):
                for columns in range(1, 5):
                    if many <= rows * columns:
                        self.assert_laid(many, [], rows, columns)
                    else:
                        self.assert_not_laid(many, [], rows, columns)

    def test_chords_of_no_key_and_of_one_need_only_room(self):
        chords = [(), (0,), (1,), (2,), (3,), (4,), (5,), ()]
        self.assert_laid(6, chords, 2, 3)
        self.assert_laid(6, chords, 3, 2)
        self.assert_not_laid(6, chords, 5, 1)
        self.assert_laid(4, chords[:5], 2, 2)

    def test_as_many_keys_as_crossings(self):
        self.assert_laid(4, [(0, 1), (2, 3)], 2, 2)
        self.assert_not_laid(4, [(0, 1, 2)], 2, 2)
        self.assert_laid(4, [(0, 1, 2, 3)], 1, 4)
        self.assert_not_laid(6, [(0, 1, 2, 3)], 2, 3)
        self.assert_laid(6, [(0, 1), (2, 3), (4, 5)], 2, 3)

    def test_three_keys_of_a_full_square_are_never_sure(self):
        for chord in combinations(range(4), 3):
            self.assert_not_laid(4, [chord], 2, 2)
            self.assert_laid(4, [chord], 2, 3)

    def test_three_keys_of_a_square_with_a_blank_are_sure(self):
        self.assert_laid(3, [(0, 1, 2)], 2, 2)

    def test_more_keys_than_crossings(self):
        self.assertEqual(laid(2, [], 1, 1), ("none", [("on", [])]))
        self.assertEqual(laid(6, [(0, 5)], 1, 1), ("none", [("on", [])]))
        self.assertEqual(laid(3, [], 1, 2), ("none", [("on", [("on", [])])]))
        self.assertEqual(laid(3, [(0, 1, 2)], 2, 1), ("none", [("on", [("on", [])])]))

    def test_one_row_or_one_column(self):
        whole = (0, 1, 2, 3, 4, 5)
        for lines in range(1, 7):
            keys = whole[:lines]
            for chords in ([keys], [keys[:2], keys[1:], ()]):
                self.assert_laid(lines, chords, 1, lines)
                self.assert_laid(lines, chords, lines, 1)
                self.assert_laid(lines, chords, 1, 6)
        self.assert_not_laid(6, [whole], 1, 5)
        self.assert_not_laid(6, [whole], 5, 1)

    def test_all_keys_pressed_need_a_line_more_than_keys(self):
        for many in range(1, 7):
            for rows in range(1, 7):
                for columns in range(1, 7):
                    if rows + columns > many:
                        self.assert_laid(many, [tuple(range(many))], rows, columns)
                    else:
                        self.assert_not_laid(many, [tuple(range(many))], rows, columns)

    def test_eight_chords(self):
        chords = list(combinations(range(6), 3))[:8]
        self.assert_not_laid(6, chords, 2, 3)
        self.assert_laid(6, chords, 3, 4)
        self.assert_laid(6, chords, 6, 6)

    def test_a_key_that_is_in_no_chord_may_be_a_ghost(self):
        self.assert_not_laid(4, [(0, 1, 2)], 2, 2)
        self.assert_laid(4, [(0, 1), (0, 2), (1, 2), (3,)], 2, 2)

    def test_the_same_as_by_trying_all_boards(self):
        for many, chords in WISHES:
            for rows in range(1, 4):
                for columns in range(1, 4):
                    if wished_board(many, tuple(chords), rows, columns):
                        self.assert_laid(many, chords, rows, columns)
                    else:
                        self.assert_not_laid(many, chords, rows, columns)

    def test_all_pairs_of_chords_of_four_keys(self):
        for chords in combinations(chords_up_to(4, 3), 2):
            for rows, columns in ((2, 2), (1, 3), (2, 3)):
                if wished_board(4, chords, rows, columns):
                    self.assert_laid(4, list(chords), rows, columns)
                else:
                    self.assert_not_laid(4, list(chords), rows, columns)


class FewestTest(LayingTest):
    def test_one_key(self):
        for chords in ([], [()], [(0,)], [(0,)] * 8):
            self.assertEqual(fewest(1, chords), (1, 1, ((0, 0),), []))

    def test_two_keys(self):
        for chords in ([], [(0, 1)], [(), (0,), (1,), (0, 1)]):
            told = fewest(2, chords)
            self.assertEqual(told[:2] + told[3:], (1, 2, [(1, 1, [("on", [])])]))
            self.assert_fewest(2, chords, 1, 2)

    def test_no_chord(self):
        sizes = ((1, 1), (1, 2), (1, 3), (2, 2), (2, 3), (2, 3))
        for many, (rows, columns) in enumerate(sizes, start=1):
            self.assert_fewest(many, [], rows, columns)
            self.assert_fewest(many, [(), (many - 1,)], rows, columns)

    def test_all_keys_may_be_pressed(self):
        for many in range(1, 7):
            self.assert_fewest(many, [tuple(range(many))], 1, many)

    def test_the_fewest_rows_of_several(self):
        # With four keys and three of them pressed two rows and three columns would do, too.
        self.assert_laid(4, [(0, 1, 2)], 2, 3)
        self.assert_fewest(4, [(0, 1, 2)], 1, 4)
        # One row and four columns have no room for five keys.
        self.assert_laid(5, [(0, 1), (3, 4)], 3, 2)
        self.assert_fewest(5, [(0, 1), (3, 4)], 2, 3)

    def test_fewer_lines_are_better_than_fewer_rows(self):
        self.assert_laid(4, [(0, 1)], 1, 4)
        self.assert_fewest(4, [(0, 1)], 2, 2)

    def test_the_same_as_by_trying_all_boards(self):
        for many, chords in WISHES:
            rows, columns = self.fewest_by_trying(many, tuple(chords))
            self.assert_fewest(many, chords, rows, columns)

    def fewest_by_trying(self, many, chords):
        for lines in range(2, 13):
            for rows in range(1, lines):
                # With all keys in one row, nothing but what is pressed is lit.
                if (rows, lines) == (1, many + 1) or wished_board(many, chords, rows, lines - rows):
                    return rows, lines - rows
        return None


class InterfaceTest(unittest.TestCase):
    def test_each_function_is_defined_in_its_file(self):
        for name in ("laid", "fewest"):
            self.assertEqual(getattr(laying, name).__module__, "ghostkeys.laying")

    def test_names_of_arguments(self):
        self.assertEqual(laid(many=2, chords=[(0, 1)], rows=1, columns=1)[0], "none")
        self.assertEqual(fewest(many=2, chords=[(0, 1)])[:2], (1, 2))

    def test_rows_and_columns_are_not_changed_for_each_other(self):
        for rows, columns in ((1, 4), (4, 1)):
            places = laid(4, [(0, 1, 2, 3)], rows, columns)[1]
            self.assertEqual(sorted(places), [(row, column) for row in range(rows) for column in range(columns)])
            self.assertIsNone(twin((rows, columns, places), (0, 1, 2, 3)))


if __name__ == "__main__":
    unittest.main()
