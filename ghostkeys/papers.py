"""Papers, which show that there is no board for a wish."""

from ghostkeys.wishes import check_lines, check_wish, is_sure_so_far, next_choices, with_key


def is_paper(many, chords, rows, columns, paper):
    """Whether the paper shows that no board of so many rows and columns has all chords sure."""
    check_wish(many, chords)
    check_lines(rows, columns)
    return shows_none(many, chords, (rows, columns, ()), paper)


def shows_none(many, chords, board, paper):
    """Whether this is a paper for the keys behind those that the board has."""
    choices = next_choices(board)
    if len(board[2]) == many or len(paper) != len(choices):
        return False
    for place, (word, told) in zip(choices, paper):
        if not is_right(many, chords, with_key(board, place), word, told):
            return False
    return True


def is_right(many, chords, board, word, told):
    """Whether a paper may have (word, told) where the last key is laid like this."""
    if word == "bad" and isinstance(told, int):
        return 0 <= told < len(chords) and not is_sure_so_far(board, chords[told])
    if word == "on" and isinstance(told, list):
        return shows_none(many, chords, board, told)
    return False
