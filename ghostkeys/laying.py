"""Keys laid so that all chords of a wish are sure."""

from ghostkeys.boards import MOST_LINES
from ghostkeys.wishes import check_lines, check_wish, is_sure_so_far, next_choices, with_key


def laid(many, chords, rows, columns):
    """("laid", places) of a board on which all chords are sure, or ("none", paper)."""
    check_wish(many, chords)
    check_lines(rows, columns)
    return laid_from(many, chords, (rows, columns, ()))


def fewest(many, chords):
    """(rows, columns, places, papers) of a board with the fewest lines on which all chords are sure."""
    check_wish(many, chords)
    lines = 2
    papers = []
    # This ends: with all keys in one row nothing but what is pressed is seen.
    while True:
        papers_ahead = papers
        papers = []
        for rows, columns in counts_together(lines):
            word, told = laid_from(many, chords, (rows, columns, ()))
            if word == "laid":
                return (rows, columns, told, papers_ahead)
            papers.append((rows, columns, told))
        lines += 1


def counts_together(lines):
    """All counts of rows and columns that are so many lines together, by rising rows."""
    return [
        (rows, lines - rows)
        for rows in range(1, MOST_LINES + 1)
        if 1 <= lines - rows <= MOST_LINES
    ]


def laid_from(many, chords, board):
    """The same as laid, with the keys that the board already has where they are."""
    if len(board[2]) == many:
        return ("laid", board[2])
    paper = []
    for place in next_choices(board):
        longer = with_key(board, place)
        number = first_unsure(longer, chords)
        if number is not None:
            # No key behind makes the chord sure: ghosts and spare keys stay what they are.
            paper.append(("bad", number))
            continue
        word, told = laid_from(many, chords, longer)
        if word == "laid":
            return (word, told)
        paper.append(("on", told))
    return ("none", paper)


def first_unsure(board, chords):
    """The number of the first chord that is not sure with the keys that are laid, None if all are."""
    for number, chord in enumerate(chords):
        if not is_sure_so_far(board, chord):
            return number
    return None
