"""What a reading tells of the keys that are pressed."""

from ghostkeys.boards import check_board
from ghostkeys.errors import NoReading
from ghostkeys.joining import keys_at, lit_crossings, pieces_of, spare_keys


def chords_of(board, reading):
    """All chords that give the reading, rising."""
    fullest = fullest_chord(board, reading)
    pieces = pieces_of(board, fullest)
    return sorted([chord for chord in chords_within(fullest) if pieces_of(board, chord) == pieces])


def sure_keys(board, reading):
    """The keys that are pressed in each chord that gives the reading, rising."""
    fullest = fullest_chord(board, reading)
    spare = spare_keys(board, fullest)
    return [key for key in fullest if key not in spare]


def open_keys(board, reading):
    """The keys that are pressed in some chords that give the reading and not in others, rising."""
    # A chord that gives the reading lies within the fullest one. So does the
    # fullest one less a key, between that chord and itself: a key that some
    # chord lacks is one that the fullest one can spare.
    return spare_keys(board, fullest_chord(board, reading))


def fullest_chord(board, reading):
    """All keys at the reading's crossings."""
    check_board(board)
    fullest = tuple(keys_at(board, reading))
    # Pressing a ghost changes nothing, so this chord gives the reading if any does.
    if lit_crossings(board, fullest) != reading:
        raise NoReading(0)
    return fullest


def chords_within(keys):
    chords = [()]
    for key in keys:
        chords = chords + [(*chord, key) for chord in chords]
    return chords
