"""What readings one behind another tell of the keys that are pressed."""

from ghostkeys.boards import check_board
from ghostkeys.errors import NoReading
from ghostkeys.joining import lit_crossings


def follow(board, readings):
    """(sure, perhaps) for each moment, of all that may have gone on up to then."""
    check_board(board)
    # There may be thousands of chords at each moment. So a chord is a number here,
    # with a bit for each pressed key: a key that goes down or up changes one bit.
    many = len(board[2])
    known = {}
    possible = [0]
    told = []
    for moment, reading in enumerate(readings):
        reached = one_key_on(many, possible)
        possible = [pressed for pressed in reached if reading_of(board, pressed, known) == reading]
        if not possible:
            raise NoReading(moment)
        told.append(common_keys(possible))
    return told


def one_key_on(many, possible):
    """What may be pressed when of so many keys at most one went down or up."""
    reached = {pressed: True for pressed in possible}
    for pressed in possible:
        for key in range(many):
            reached[pressed ^ (1 << key)] = True
    return list(reached)


def reading_of(board, pressed, known):
    """What is lit; known keeps it, since the same chords come up at many moments."""
    if pressed not in known:
        known[pressed] = lit_crossings(board, keys_of(pressed))
    return known[pressed]


def common_keys(possible):
    """The keys that are in each of these, and those that are in some and not in others."""
    everywhere = possible[0]
    somewhere = 0
    for pressed in possible:
        everywhere = everywhere & pressed
        somewhere = somewhere | pressed
    return (keys_of(everywhere), keys_of(somewhere ^ everywhere))


def keys_of(pressed):
    return [key for key in range(pressed.bit_length()) if pressed >> key & 1]
