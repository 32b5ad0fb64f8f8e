"""Wishes, and the steps by which keys are laid for them one behind the other."""

from ghostkeys.boards import MOST_LINES, wrong_place
from ghostkeys.errors import BadCount, BadWish
from ghostkeys.joining import is_sure

MOST_WISHED_KEYS = 6
MOST_CHORDS = 8


def check_wish(many, chords):
    """Refuse the count of keys, or else a chord."""
    if not 1 <= many <= MOST_WISHED_KEYS:
        raise BadCount(f"no such count of keys: {many}")
    for number, chord in enumerate(chords):
        if number >= MOST_CHORDS or wrong_place(many, chord) is not None:
            raise BadWish(number)


def check_lines(rows, columns):
    for lines in (rows, columns):
        if not 1 <= lines <= MOST_LINES:
            raise BadCount(f"no such count of rows or columns: {lines}")


def next_choices(board):
    """The crossings on which the next key may be laid, rising."""
    rows, columns, places = board
    reached_rows = lines_in_reach(rows, [row for row, _ in places])
    reached_columns = lines_in_reach(columns, [column for _, column in places])
    return [
        (row, column)
        for row in range(reached_rows)
        for column in range(reached_columns)
        if (row, column) not in places
    ]


def lines_in_reach(lines, used):
    """How many lines there are up to one behind the last used one."""
    return min(lines, max(used, default=-1) + 2)


def with_key(board, place):
    rows, columns, places = board
    return (rows, columns, (*places, place))


def is_sure_so_far(board, chord):
    """Whether the chord's laid keys alone are sure."""
    many = len(board[2])
    return is_sure(board, [key for key in chord if key < many])
