"""Boards and chords that cannot be, refused."""

from ghostkeys.errors import BadBoard, BadChord

MOST_LINES = 6
MOST_KEYS = 12


def check_board(board):
    rows, columns, places = board
    if not (1 <= rows <= MOST_LINES and 1 <= columns <= MOST_LINES):
        raise BadBoard("lines", 0)
    for number, place in enumerate(places):
        if number >= MOST_KEYS or not is_crossing(rows, columns, place) or place in places[:number]:
            raise BadBoard("keys", number)


def is_crossing(rows, columns, place):
    row, column = place
    return 0 <= row < rows and 0 <= column < columns


def check_chord(board, chord):
    """Refuse the board, or else the chord."""
    check_board(board)
    place = wrong_place(len(board[2]), chord)
    if place is not None:
        raise BadChord(place)


def wrong_place(many, chord):
    """The place of the chord's first number that cannot stand there, of so many keys; None if all can."""
    ahead = -1
    for place, key in enumerate(chord):
        if not ahead < key < many:
            return place
        ahead = key
    return None
