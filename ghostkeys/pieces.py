"""What is seen of a chord, and whether it is sure."""

from ghostkeys.boards import check_board, check_chord
from ghostkeys.joining import ghost_keys, keys_at, lit_crossings, spare_keys, without


def lit(board, chord):
    """All lit crossings, rising."""
    check_chord(board, chord)
    return lit_crossings(board, chord)


def seen(board, chord):
    """The numbers of all keys at lit crossings, rising."""
    check_chord(board, chord)
    return keys_at(board, lit_crossings(board, chord))


def ghosts(board, chord):
    """The keys at lit crossings that nobody presses, rising."""
    check_chord(board, chord)
    return ghost_keys(board, chord)


def blanks(board, chord):
    """The lit crossings without a key, rising."""
    check_chord(board, chord)
    places = board[2]
    return [crossing for crossing in lit_crossings(board, chord) if crossing not in places]


def twin(board, chord):
    """Another chord that lights just the same crossings, None for a sure chord."""
    check_chord(board, chord)
    return other_chord(board, chord)


def unsure(board, chords):
    """(number, twin) of the first chord that is not sure, None if all are."""
    check_board(board)
    for chord in chords:
        check_chord(board, chord)
    for number, chord in enumerate(chords):
        other = other_chord(board, chord)
        if other is not None:
            return (number, other)
    return None


def other_chord(board, chord):
    # One key more or one key less is enough: a twin with a key that is not
    # pressed shows a ghost, and any other twin lies within the chord, so that a
    # single key which it lacks may be left out alone.
    unpressed = ghost_keys(board, chord)
    if unpressed:
        return tuple(sorted([*chord, unpressed[0]]))
    spare = spare_keys(board, chord)
    if spare:
        return without(chord, spare[0])
    return None
