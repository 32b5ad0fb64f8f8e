"""Slow answers about keys that are laid, which follow the document's words one by one."""

from functools import lru_cache
from itertools import combinations, permutations

from tests.reference import all_chords, all_crossings, walked_lit

PAIRS = [(0, 1), (0, 2), (1, 2)]

# Wishes of which some need more lines than their keys need room.
WISHES = (
    (1, []),
    (1, [(), (0,)]),
    (2, [(0, 1)]),
    (3, [(0, 1, 2)]),
    (3, PAIRS),
    (4, []),
    (4, [(0, 1, 2)]),
    (4, [(0, 3), (1, 2)]),
    (4, [(0, 1, 2, 3)]),
    (4, [(), (3,), (0, 1, 3), (1, 2, 3)]),
    (5, [(1, 2, 4), (0, 3)]),
    (5, [(0, 1, 2), (2, 3, 4)]),
    (5, [(0, 2, 3, 4)]),
    (5, [(0, 1, 2), (0, 3, 4), (1, 3), (2, 4), (1, 4), (2, 3), (), (0, 1, 2)]),
    (6, []),
    (6, [(0, 1, 2), (3, 4, 5)]),
    (6, [(0, 1), (2, 3), (4, 5), (1, 2), (3, 4), (0, 5)]),
    (6, [(0, 2, 4), (1, 3, 5), (0, 1, 2), (3, 4, 5), (0, 3, 5), (1, 2, 4), (0, 4, 5), (1, 3, 4)]),
    (6, [(1, 2, 3, 4, 5), (0, 1, 2)]),
    (6, [(0, 1, 2, 3, 4, 5)]),
)


@lru_cache(maxsize=None)
def walked_sure(board, chord):
    """Whether no other chord lights just the same crossings."""
    same = walked_lit(board, chord)
    # A twin presses keys that are seen, and no others.
    places = board[2]
    seen = [key for key, place in enumerate(places) if place in same]
    for size in range(len(seen) + 1):
        for other in combinations(seen, size):
            if other != chord and walked_lit(board, other) == same:
                return False
    return True


def all_sure(board, chords):
    return all(walked_sure(board, chord) for chord in chords)


@lru_cache(maxsize=None)
def wished_board(many, chords, rows, columns):
    """Whether there is a board of so many rows and columns on which all chords are sure."""
    crossings = all_crossings(rows, columns)
    # Rows and columns may be named so that key 0 stands at the first crossing.
    return any(
        all_sure((rows, columns, ((0, 0), *others)), chords)
        for others in permutations(crossings[1:], many - 1)
    )


def choices_behind(places, rows, columns):
    """The free crossings of rows and columns up to one behind the last that has a key."""
    last_row = max([row for row, _ in places], default=-1)
    last_column = max([column for _, column in places], default=-1)
    return [
        (row, column)
        for row, column in all_crossings(rows, columns)
        if row <= last_row + 1 and column <= last_column + 1 and (row, column) not in places
    ]


def unsure_numbers(chords, rows, columns, places):
    """The numbers of the chords that are not sure, of each its laid keys alone."""
    found = []
    for number, chord in enumerate(chords):
        laid_keys = tuple(key for key in chord if key < len(places))
        if not walked_sure((rows, columns, places), laid_keys):
            found.append(number)
    return found


def tuples_of(many, rows, columns, paper, places=()):
    """For each tuple of a right paper, its list, its place in it, and the keys laid with it."""
    choices = choices_behind(places, rows, columns)
    for at, (word, told) in enumerate(paper):
        longer = (*places, choices[at])
        yield paper, at, longer
        if word == "on":
            yield from tuples_of(many, rows, columns, told, longer)


def chords_up_to(many, size):
    return [chord for chord in all_chords(many) if len(chord) <= size]
