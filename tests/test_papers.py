"""Papers, which show that there is no board for a wish (point 11)."""

import unittest
from copy import deepcopy

from ghostkeys import papers
from ghostkeys.laying import fewest, laid
from ghostkeys.papers import is_paper
from tests.laying_reference import WISHES, tuples_of, unsure_numbers

HUGE = 10 ** 60 - 1

# Three keys of a full square, whichever it is that is not pressed.
BAD = ("bad", 0)
SQUARE_PAPER = [
    ("on", [
        ("on", [("on", [BAD]), ("on", [BAD])]),
        ("on", [("on", [BAD]), ("on", [BAD])]),
        ("on", [("on", [BAD]), ("on", [BAD])]),
    ]),
]


def refuted():
    """(many, chords, rows, columns, paper) of all sizes of the wishes for which there is no board."""
    for many, chords in WISHES:
        for rows in range(1, 4):
            for columns in range(1, 4):
                word, told = laid(many, chords, rows, columns)
                if word == "none":
                    yield many, chords, rows, columns, told


class RightPaperTest(unittest.TestCase):
    def assert_paper(self, *told):
        self.assertIs(is_paper(*told), True, told)

    def test_by_hand(self):
        for chord in ((0, 1, 2), (0, 1, 3), (0, 2, 3), (1, 2, 3), (0, 1, 2, 3)):
            self.assert_paper(4, [chord], 2, 2, SQUARE_PAPER)
        self.assert_paper(4, [(0, 1, 2, 3), (0, 1, 2)], 2, 2, SQUARE_PAPER)

    def test_no_choice_at_all(self):
        self.assert_paper(2, [], 1, 1, [("on", [])])
        self.assert_paper(6, [(0, 1)], 1, 1, [("on", [])])
        self.assert_paper(3, [], 1, 2, [("on", [("on", [])])])
        self.assert_paper(6, [], 2, 1, [("on", [("on", [])])])
        full = [("on", [])]
        self.assert_paper(5, [], 2, 2, [("on", [("on", [("on", full), ("on", full)])] * 3)])

    def test_a_line_more_is_a_choice_only_as_far_as_there_is_one(self):
        # Keys 0 and 1 stand in one column: the third key goes beside them or below them.
        word, told = laid(3, [(0, 1, 2)], 2, 1)
        self.assertEqual((word, told), ("none", [("on", [("on", [])])]))
        below = [("on", [("on", [("on", [])])])]
        self.assert_paper(4, [], 3, 1, below)
        self.assert_paper(4, [], 1, 3, below)

    def test_bad_as_soon_as_the_laid_keys_show_it(self):
        # The fourth key shows it, and a fifth one is never laid.
        self.assert_paper(5, [(0, 1, 2, 4)], 2, 2, SQUARE_PAPER)
        self.assert_paper(6, [(0, 1, 2, 3, 5), (4,)], 2, 2, SQUARE_PAPER)

    def test_on_behind_a_key_that_is_bad_already(self):
        later = deepcopy(SQUARE_PAPER)
        for first in later[0][1]:
            for second in first[1]:
                second[1][0] = ("on", [])
        self.assert_paper(5, [(0, 1, 2)], 2, 2, SQUARE_PAPER)
        self.assert_paper(5, [(0, 1, 2)], 2, 2, later)

    def test_what_laid_tells(self):
        some = 0
        for told in refuted():
            self.assert_paper(*told)
            some += 1
        self.assertGreater(some, 50)

    def test_what_fewest_tells(self):
        for many, chords in WISHES:
            for rows, columns, paper in fewest(many, chords)[3]:
                self.assert_paper(many, chords, rows, columns, paper)


class WrongPaperTest(unittest.TestCase):
    def assert_wrong(self, *told):
        self.assertIs(is_paper(*told), False, told)

    def test_where_there_is_a_board(self):
        for paper in ([], [("on", [])], [BAD], [("on", [("on", [])] * 3)], SQUARE_PAPER):
            self.assert_wrong(1, [(0,)], 1, 1, paper)
            self.assert_wrong(4, [(0, 1)], 2, 2, paper)
            self.assert_wrong(4, [(0, 1, 2)], 3, 3, paper)
            self.assert_wrong(3, [(0, 1, 2)], 2, 2, paper)

    def test_nothing_stands_behind_the_last_key(self):
        self.assert_wrong(1, [], 1, 1, [("on", [])])
        self.assert_wrong(2, [], 1, 2, [("on", [("on", [])])])
        self.assert_wrong(3, [(0, 1, 2)], 1, 3, [("on", [("on", [("on", [])])])])
        paper = deepcopy(SQUARE_PAPER)
        self.assert_wrong(3, [(0, 1, 2)], 2, 2, paper)
        paper[0][1][1][1][1][1][0] = ("on", [])
        self.assert_wrong(4, [(0, 1, 2)], 2, 2, paper)

    def test_an_empty_paper(self):
        for many in (1, 2, 6):
            self.assert_wrong(many, [], 1, 1, [])
            self.assert_wrong(many, [tuple(range(many))], 2, 2, [])

    def test_the_first_key_has_one_choice(self):
        self.assert_wrong(4, [(0, 1, 2)], 2, 2, SQUARE_PAPER * 2)
        self.assert_wrong(2, [], 1, 1, [("on", []), ("on", [])])
        self.assert_wrong(2, [], 1, 1, [("on", [("on", [])])])

    def test_a_chord_of_no_laid_key_is_sure(self):
        self.assert_wrong(2, [(), (0,)], 1, 1, [("bad", 0)])
        self.assert_wrong(2, [(1,), (0,)], 1, 1, [("bad", 0)])
        self.assert_wrong(2, [(1,), (0,)], 1, 1, [("bad", 1)])

    def test_another_wish_another_size(self):
        self.assert_wrong(4, [(0, 1)], 2, 2, SQUARE_PAPER)
        self.assert_wrong(4, [(0, 1), (0, 1, 2)], 2, 2, SQUARE_PAPER)
        self.assert_wrong(4, [(0, 1, 2)], 2, 3, SQUARE_PAPER)
        self.assert_wrong(4, [(0, 1, 2)], 3, 2, SQUARE_PAPER)
        self.assert_wrong(4, [(0, 1, 2)], 1, 2, SQUARE_PAPER)

    def test_words_and_numbers_that_there_are_not(self):
        wrong = (
            ("bad", 1), ("bad", -1), ("bad", 8), ("bad", HUGE), ("bad", -HUGE),
            ("", 0), ("Bad", 0), ("none", []), ("laid", []), ("other", 0), ("a" * 100, HUGE),
        )
        for thing in wrong:
            paper = deepcopy(SQUARE_PAPER)
            paper[0][1][2][1][1][1][0] = thing
            self.assert_wrong(4, [(0, 1, 2)], 2, 2, paper)
            self.assert_wrong(4, [(0, 1, 2)], 2, 2, [thing])
            self.assert_wrong(2, [(0, 1)], 1, 1, [thing])

    def test_a_hundred_things(self):
        self.assert_wrong(4, [(0, 1, 2)], 2, 2, SQUARE_PAPER * 100)
        self.assert_wrong(6, [(0, 1, 2)], 6, 6, [("on", [BAD] * 100)])
        self.assert_wrong(6, [(0, 1, 2)], 6, 6, [BAD] * 100)

    def test_a_paper_that_is_deeper_than_there_are_keys(self):
        paper = []
        for _ in range(100):
            paper = [("on", paper)]
        self.assert_wrong(6, [], 1, 6, paper)
        self.assert_wrong(6, [], 1, 5, paper)

    def test_each_tuple_of_right_papers_changed(self):
        for many, chords, rows, columns, paper in refuted():
            told = (many, chords, rows, columns, paper)
            tuples = list(tuples_of(many, rows, columns, paper))
            for things, at, places in tuples[::1 + len(tuples) // 60]:
                kept = things[at]
                self.assert_changed_is_wrong(told, things, at)
                self.assert_numbers(told, things, at, places)
                things[at] = kept
            self.assertIs(is_paper(*told), True)

    def assert_changed_is_wrong(self, told, things, at):
        word, behind = kept = things[at]
        del things[at]
        self.assert_wrong(*told)
        things[at:at] = [kept, kept]
        self.assert_wrong(*told)
        del things[at]
        for wrong in (({"bad": "on", "on": "bad"}[word], behind), ("other", behind), (word, [kept])):
            things[at] = wrong
            self.assert_wrong(*told)

    def assert_numbers(self, told, things, at, places):
        _, chords, rows, columns, _ = told
        right = unsure_numbers(chords, rows, columns, places)
        for number in range(-len(chords) - 1, len(chords) + 2):
            things[at] = ("bad", number)
            self.assertIs(is_paper(*told), number in right, (told[:4], places, number))


class InterfaceTest(unittest.TestCase):
    def test_it_is_defined_in_its_file(self):
        self.assertEqual(papers.is_paper.__module__, "ghostkeys.papers")

    def test_names_of_arguments(self):
        self.assertIs(is_paper(many=2, chords=[], rows=1, columns=1, paper=[("on", [])]), True)


if __name__ == "__main__":
    unittest.main()
