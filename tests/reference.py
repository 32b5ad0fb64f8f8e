"""Boards to test on, and slow answers that follow the document's words one by one."""

from itertools import combinations

ONE_KEY = (1, 1, ((0, 0),))
NO_KEY = (2, 3, ())
SQUARE = (2, 2, ((0, 0), (0, 1), (1, 0), (1, 1)))
CORNER = (2, 2, ((0, 0), (0, 1), (1, 0)))

# All twelve crossings, the keys numbered from the last crossing back.
BLOCK = (3, 4, tuple((row, column) for row in (2, 1, 0) for column in (3, 2, 1, 0)))

# Six rows and six columns, joined one over the other; key 11 closes the ring.
RING = (
    6,
    6,
    (
        (0, 0), (1, 0), (1, 1), (2, 1), (2, 2), (3, 2),
        (3, 3), (4, 3), (4, 4), (5, 4), (5, 5), (0, 5),
    ),
)

# Twelve keys in no order: a block of four, a chain, a key alone, a row without keys.
MIXED = (
    6,
    6,
    (
        (5, 5), (0, 1), (1, 0), (0, 0), (1, 1), (2, 3),
        (3, 2), (2, 2), (3, 4), (0, 3), (5, 0), (3, 5),
    ),
)

NAMED_BOARDS = (ONE_KEY, NO_KEY, SQUARE, CORNER, (2, 3, ((1, 2), (0, 0), (0, 2), (1, 0))), (1, 6, ((0, 4), (0, 2))))


def all_crossings(rows, columns):
    return [(row, column) for row in range(rows) for column in range(columns)]


def all_chords(many):
    chords = [chord for size in range(many + 1) for chord in combinations(range(many), size)]
    return sorted(chords)


def small_boards():
    """Each set of keys on up to two rows and three columns, numbered from the last crossing back."""
    for rows in (1, 2):
        for columns in (1, 2, 3):
            crossings = all_crossings(rows, columns)
            for many in range(len(crossings) + 1):
                for places in combinations(crossings, many):
                    yield (rows, columns, places[::-1])


def walked_lit(board, chord):
    """The lit crossings, found by walking over pressed keys from each row."""
    rows, columns, places = board
    pressed = [places[key] for key in chord]
    found = []
    for start in range(rows):
        reached_rows, reached_columns = {start}, set()
        before = None
        while before != (len(reached_rows), len(reached_columns)):
            before = (len(reached_rows), len(reached_columns))
            for row, column in pressed:
                if row in reached_rows or column in reached_columns:
                    reached_rows.add(row)
                    reached_columns.add(column)
        found += [(start, column) for column in sorted(reached_columns)]
    return found


def chords_by_reading(board):
    """For each reading that can be, as a tuple, all chords that give it, rising."""
    found = {}
    for chord in all_chords(len(board[2])):
        found.setdefault(tuple(walked_lit(board, chord)), []).append(chord)
    return found
