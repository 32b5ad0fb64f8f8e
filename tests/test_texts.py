"""Boards drawn as texts, and read back (point 13)."""

import unittest
from itertools import product

from ghostkeys import texts
from ghostkeys.errors import BadBoard, BadText
from ghostkeys.texts import drawn, read_board
from tests.reference import BLOCK, MIXED, NAMED_BOARDS, RING, SQUARE, all_crossings, small_boards

TEXTS = (
    (".", (1, 1, ())),
    ("a", (1, 1, ((0, 0),))),
    ("..", (1, 2, ())),
    (".\n.", (2, 1, ())),
    ("......\n......\n......\n......\n......\n......", (6, 6, ())),
    ("ab\ncd", SQUARE),
    ("ba\n.c", (2, 2, ((0, 1), (0, 0), (1, 1)))),
    (".b.a..", (1, 6, ((0, 3), (0, 1)))),
    ("c\n.\n.\nb\na\n.", (6, 1, ((4, 0), (3, 0), (0, 0)))),
    ("...\n..a", (2, 3, ((1, 2),))),
    ("lkji\nhgfe\ndcba", BLOCK),
    ("a....l\nbc....\n.de...\n..fg..\n...hi.\n....jk", RING),
    ("db.j..\nce....\n..hf..\n..g.il\n......\nk....a", MIXED),
)


def row_due(text):
    """The first line that is not so drawn, or the count of lines where a letter is left out, or None."""
    lines = text.split("\n")
    ahead = set()
    for row, line in enumerate(lines):
        letters = line.replace(".", "")
        fits = row < 6 and 1 <= len(line) <= 6 and len(line) == len(lines[0])
        unlike = len(set(letters)) == len(letters) and not ahead & set(letters)
        if not (fits and unlike and set(letters) <= set("abcdefghijkl")):
            return row
        ahead |= set(letters)
    return None if ahead == set("abcdefghijkl"[:len(ahead)]) else len(lines)


class DrawnTest(unittest.TestCase):
    def test_each_board_is_drawn_so(self):
        for text, board in TEXTS:
            self.assertEqual(drawn(board), text)
            self.assertIs(type(drawn(board)), str)

    def test_each_letter(self):
        places = tuple(all_crossings(6, 6)[20:32])
        self.assertEqual(drawn((6, 6, places)), "......\n......\n......\n..abcd\nefghij\nkl....")

    def test_boards_that_cannot_be(self):
        wrong = (
            ((0, 1, ()), "lines", 0),
            ((1, 7, ()), "lines", 0),
            ((2, 2, ((0, 0), (0, 2))), "keys", 1),
            ((2, 2, ((0, 0), (1, 1), (0, 0))), "keys", 2),
            ((6, 6, tuple(all_crossings(6, 6)[:13])), "keys", 12),
        )
        for board, word, number in wrong:
            with self.assertRaises(BadBoard) as caught:
                drawn(board)
            self.assertEqual((caught.exception.word, caught.exception.number), (word, number))


class ReadTest(unittest.TestCase):
    def test_each_text_is_read_so(self):
        for text, board in TEXTS:
            self.assertEqual(read_board(text), board)

    def test_what_is_drawn_is_read_to_the_same_board(self):
        for board in (*NAMED_BOARDS, BLOCK, RING, MIXED, *small_boards()):
            self.assertEqual(read_board(drawn(board)), board)

    def test_each_size(self):
        for rows in range(1, 7):
            for columns in range(1, 7):
                board = (rows, columns, ((rows - 1, columns - 1),))
                self.assertEqual(read_board(drawn(board)), board)
                self.assertEqual(drawn(board).split("\n"), ["." * columns] * (rows - 1) + ["." * (columns - 1) + "a"])

    def test_kinds(self):
        for text, _ in TEXTS:
            told = read_board(text)
            self.assertEqual([type(told), *map(type, told)], [tuple, int, int, tuple])
            for place in told[2]:
                self.assertEqual([type(place), *map(type, place)], [tuple, int, int])

    def test_all_short_texts(self):
        for size in range(6):
            for signs in product(".abcm\n", repeat=size):
                text = "".join(signs)
                row = row_due(text)
                if row is None:
                    self.assertEqual(drawn(read_board(text)), text)
                else:
                    with self.assertRaises(BadText, msg=text) as caught:
                        read_board(text)
                    self.assertEqual(caught.exception.row, row, text)


class BadTextTest(unittest.TestCase):
    def assert_bad(self, text, row):
        with self.assertRaises(BadText, msg=text) as caught:
            read_board(text)
        self.assertEqual(caught.exception.row, row, text)

    def test_an_empty_text(self):
        self.assert_bad("", 0)

    def test_lines_without_signs(self):
        self.assert_bad("\n", 0)
        self.assert_bad("\na", 0)
        self.assert_bad("\n\n\n\n\n\n\n", 0)
        self.assert_bad("ab\n\ncd", 1)

    def test_a_line_end_behind_the_last_line(self):
        self.assert_bad("a\n", 1)
        self.assert_bad("ab\ncd\n", 2)
        self.assert_bad("ab\ncd\n\n", 2)
        self.assert_bad(drawn(RING) + "\n", 6)

    def test_lines_of_unlike_lengths(self):
        self.assert_bad("ab\nc", 1)
        self.assert_bad("a\nbc", 1)
        self.assert_bad("..\n..\n...\n..", 2)
        self.assert_bad("..\n..\n.\n..\n.", 2)
        self.assert_bad("......\n.......", 1)

    def test_a_seventh_sign(self):
        self.assert_bad(".......", 0)
        self.assert_bad("abcdefg", 0)
        self.assert_bad(".......\n.......", 0)
        self.assert_bad("." * 1000, 0)

    def test_a_seventh_line(self):
        self.assert_bad("\n".join(["."] * 7), 6)
        self.assert_bad("\n".join("abcdefg"), 6)
        self.assert_bad("\n".join(["."] * 500), 6)
        self.assert_bad("\n".join(["..", "..", "..", "..", "..", ".", ".."]), 5)
        self.assert_bad("\n".join(["."] * 6 + ["m", ".."]), 6)

    def test_a_letter_twice(self):
        self.assert_bad("aa", 0)
        self.assert_bad("ab\n.a", 1)
        self.assert_bad("ab\n..\ncc\ncc", 2)
        self.assert_bad("a\nb\nc\nd\ne\na", 5)
        self.assert_bad("abcdef\nghijkl\n......\n.....l", 3)

    def test_no_letter_from_a_to_l(self):
        for number in range(ord(" "), ord("~") + 1):
            sign = chr(number)
            if sign == "." or sign in "abcdefghijkl":
                continue
            self.assert_bad(sign, 0)
            self.assert_bad(f"a{sign}", 0)
            self.assert_bad(f"{sign}a", 0)
            self.assert_bad(f"ab\nc{sign}\n..", 1)

    def test_a_letter_left_out(self):
        self.assert_bad("b", 1)
        self.assert_bad("ac", 1)
        self.assert_bad("..\n.b", 2)
        self.assert_bad("ab\n.d\n..", 3)
        self.assert_bad("l\n.\n.\n.\n.\n.", 6)
        self.assert_bad("abcdef\nghijl.", 2)
        for letter in "abcdefghijk":
            self.assert_bad("abcdef\nghijkl".replace(letter, "."), 2)
        self.assertEqual(len(read_board("abcdef\nghijk.")[2]), 11)

    def test_a_wrong_line_ahead_of_a_letter_left_out(self):
        self.assert_bad("b\nb", 1)
        self.assert_bad("bc\n.x", 1)
        self.assert_bad("c\n", 1)
        self.assert_bad("\n".join("bcdefgh"), 6)

    def test_the_first_wrong_line_of_several(self):
        self.assert_bad("ab\nc\nx", 1)
        self.assert_bad("ax\nb", 0)
        self.assert_bad("ab\nca\n\n", 1)
        self.assert_bad("abcdefg\na", 0)
        self.assert_bad("\n".join(["a"] * 9), 1)


class InterfaceTest(unittest.TestCase):
    def test_each_function_is_defined_in_its_file(self):
        for name in ("drawn", "read_board"):
            self.assertEqual(getattr(texts, name).__module__, "ghostkeys.texts")

    def test_names_of_arguments(self):
        self.assertEqual(read_board(text=drawn(board=SQUARE)), SQUARE)


if __name__ == "__main__":
    unittest.main()
