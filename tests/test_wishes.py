"""Wishes, and counts of rows and columns, that cannot be (point 9), and which refusal is due first."""

import unittest

from ghostkeys.errors import BadCount, BadWish
from ghostkeys.laying import fewest, laid
from ghostkeys.papers import is_paper

HUGE = 10 ** 60 - 1
WRONG_LINES = (0, 7, 8, -1, -6, HUGE, -HUGE)


def laid_in_three(many, chords):
    return laid(many, chords, 3, 3)


def no_paper_in_three(many, chords):
    return is_paper(many, chords, 3, 3, [])


OF_WISHES = (fewest, laid_in_three, no_paper_in_three)


class CountTest(unittest.TestCase):
    def test_one_to_six_keys(self):
        for many in range(1, 7):
            for call in OF_WISHES:
                call(many, [(), (many - 1,)])

    def test_other_counts_of_keys(self):
        for many in (0, 7, 8, 12, -1, -6, HUGE, -HUGE):
            for call in OF_WISHES:
                with self.assertRaises(BadCount, msg=f"{call.__name__} {many}"):
                    call(many, [])

    def test_one_to_six_rows_and_columns(self):
        for lines in range(1, 7):
            self.assertEqual(laid(1, [(0,)], lines, 7 - lines), ("laid", ((0, 0),)))
            self.assertIs(is_paper(1, [(0,)], lines, 7 - lines, []), False)

    def test_other_counts_of_rows_and_columns(self):
        for wrong in WRONG_LINES:
            for rows, columns in ((wrong, 1), (6, wrong), (wrong, wrong)):
                with self.assertRaises(BadCount):
                    laid(2, [(0, 1)], rows, columns)
                with self.assertRaises(BadCount):
                    is_paper(2, [(0, 1)], rows, columns, [])


class WishTest(unittest.TestCase):
    def assert_bad(self, many, chords, number):
        for call in OF_WISHES:
            with self.assertRaises(BadWish, msg=f"{call.__name__} {chords}") as caught:
                call(many, chords)
            self.assertEqual(caught.exception.number, number, chords)

    def test_wishes_that_can_be(self):
        whole = (0, 1, 2, 3, 4, 5)
        for chords in ([], [()], [whole], [(), (0,), (5,), (0, 5), whole, (1, 2, 3), (0,), ()], [()] * 8):
            for call in OF_WISHES:
                call(6, chords)

    def test_no_key(self):
        for wrong in ((3,), (-1,), (0, 3), (0, 1, 2, 3), (HUGE,), (-HUGE, 0), (0, HUGE)):
            self.assert_bad(3, [wrong], 0)
        self.assert_bad(1, [(1,)], 0)
        self.assert_bad(6, [(6,)], 0)

    def test_not_rising(self):
        for wrong in ((0, 0), (1, 0), (0, 2, 1), (0, 1, 1), (2, 2), (0,) * 100):
            self.assert_bad(3, [wrong], 0)

    def test_each_number(self):
        for number in range(8):
            for wrong in ((4,), (1, 1), (2, 1), (-1,)):
                chords = [(0, 1), (), (3,), (0, 1, 2, 3), (0,), (1,), (2,), (1, 2)]
                chords[number] = wrong
                self.assert_bad(4, chords, number)

    def test_a_ninth_chord(self):
        for many in (9, 10, 100):
            self.assert_bad(4, [(0,)] * many, 8)
        self.assert_bad(4, [(0,)] * 8 + [(9,)], 8)
        self.assert_bad(4, [()] * 9, 8)

    def test_the_first_of_several(self):
        self.assert_bad(4, [(0,), (0, 1), (9,), (1, 0)], 2)
        self.assert_bad(4, [(0,)] * 7 + [(9,)] + [(0,)], 7)
        self.assert_bad(4, [(9,)] * 20, 0)


class OrderTest(unittest.TestCase):
    def test_the_count_of_keys_ahead_of_the_chords(self):
        for many in (0, 7):
            for chords in ([(9,)], [()] * 9, [(1, 0)]):
                for call in OF_WISHES:
                    with self.assertRaises(BadCount):
                        call(many, chords)

    def test_the_count_of_keys_ahead_of_all(self):
        with self.assertRaises(BadCount):
            laid(0, [(9,)], 0, 7)
        with self.assertRaises(BadCount):
            is_paper(7, [(9,)], 0, 7, [("on", [])])

    def test_the_chords_ahead_of_rows_and_columns(self):
        for rows, columns in ((0, 7), (7, 1), (1, 0)):
            for chords, number in (([(0,), (2,)], 1), ([()] * 9, 8)):
                with self.assertRaises(BadWish) as caught:
                    laid(2, chords, rows, columns)
                self.assertEqual(caught.exception.number, number)
                with self.assertRaises(BadWish) as caught:
                    is_paper(2, chords, rows, columns, [("on", [])])
                self.assertEqual(caught.exception.number, number)

    def test_refusals_ahead_of_a_wrong_paper(self):
        for paper in ([], [("on", [])], [("other", 99)] * 100):
            with self.assertRaises(BadCount):
                is_paper(7, [], 1, 1, paper)
            with self.assertRaises(BadWish):
                is_paper(2, [(0, 0)], 1, 1, paper)
            with self.assertRaises(BadCount):
                is_paper(2, [], 0, 1, paper)
            with self.assertRaises(BadCount):
                is_paper(2, [], 1, 7, paper)


if __name__ == "__main__":
    unittest.main()
