"""Boards drawn as texts, and read back."""

from ghostkeys.boards import MOST_LINES, check_board
from ghostkeys.errors import BadText

BLANK = "."
LETTERS = "abcdefghijkl"


def drawn(board):
    """The board as a text, a line for each row."""
    check_board(board)
    rows, columns, places = board
    lines = []
    for row in range(rows):
        lines.append("".join([sign_at(places, (row, column)) for column in range(columns)]))
    return "\n".join(lines)


def sign_at(places, crossing):
    if crossing in places:
        return LETTERS[places.index(crossing)]
    return BLANK


def read_board(text):
    """The board that is drawn so."""
    lines = text.split("\n")
    check_lines_drawn(lines)
    found = places_by_letter(lines)
    letters = LETTERS[:len(found)]
    for letter in letters:
        if letter not in found:
            raise BadText(len(lines))
    return (len(lines), len(lines[0]), tuple([found[letter] for letter in letters]))


def check_lines_drawn(lines):
    width = len(lines[0])
    ahead = ""
    for row, line in enumerate(lines):
        # A line end behind the last line begins one more line, which has no sign.
        if row >= MOST_LINES or not 1 <= len(line) <= MOST_LINES or len(line) != width:
            raise BadText(row)
        for sign in line:
            if not is_new_sign(sign, ahead):
                raise BadText(row)
            ahead = ahead + sign


def is_new_sign(sign, ahead):
    return sign == BLANK or (sign in LETTERS and sign not in ahead)


def places_by_letter(lines):
    found = {}
    for row, line in enumerate(lines):
        for column, sign in enumerate(line):
            if sign != BLANK:
                found[sign] = (row, column)
    return found
