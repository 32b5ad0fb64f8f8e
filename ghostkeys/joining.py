"""What pressed keys join. Boards and chords that come here are already checked."""


def pieces_of(board, chord):
    """The name of its piece for each row, then for each column.

    A piece is named by its first line, so equal lists are equal pieces. A piece
    of several lines has a row and a column, so equal pieces are equal lit
    crossings, and the other way round.
    """
    rows, columns, places = board
    pieces = list(range(rows + columns))
    for key in chord:
        row, column = places[key]
        ends = (pieces[row], pieces[rows + column])
        first = min(ends)
        pieces = [first if name in ends else name for name in pieces]
    return pieces


def lit_crossings(board, chord):
    rows, columns, _ = board
    pieces = pieces_of(board, chord)
    return [
        (row, column)
        for row in range(rows)
        for column in range(columns)
        if pieces[row] == pieces[rows + column]
    ]


def keys_at(board, crossings):
    return [key for key, place in enumerate(board[2]) if place in crossings]


def ghost_keys(board, chord):
    seen_keys = keys_at(board, lit_crossings(board, chord))
    return [key for key in seen_keys if key not in chord]


def without(chord, key):
    return tuple([other for other in chord if other != key])


def spare_keys(board, chord):
    """The keys each of which alone may be left out with the same lit, rising."""
    pieces = pieces_of(board, chord)
    return [key for key in chord if pieces_of(board, without(chord, key)) == pieces]


def is_sure(board, chord):
    """Whether no other chord lights just the same crossings."""
    rows, columns, places = board
    pieces = pieces_of(board, chord)
    # A key that cannot be left out makes one piece of two, any other one changes nothing.
    if len(set(pieces)) != rows + columns - len(chord):
        return False
    seen_keys = [key for key, (row, column) in enumerate(places) if pieces[row] == pieces[rows + column]]
    return seen_keys == list(chord)
