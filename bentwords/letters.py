"""Letters, a to z, as the numbers that stand for them in a byte string."""

FIRST_LETTER = 97
LAST_LETTER = 122
FIRST_GREAT_LETTER = 65
LAST_GREAT_LETTER = 90


def is_letter(sign):
    return FIRST_LETTER <= sign <= LAST_LETTER


def is_row_of_letters(signs, least, most):
    """Whether these are letters alone, and as many as allowed."""
    return least <= len(signs) <= most and all([is_letter(sign) for sign in signs])


def letters_without(those):
    return tuple([letter for letter in range(FIRST_LETTER, LAST_LETTER + 1) if letter not in those])


def taken_as_small(sign):
    """A great letter's small one; what is no great letter stays as it is."""
    if FIRST_GREAT_LETTER <= sign <= LAST_GREAT_LETTER:
        return sign - FIRST_GREAT_LETTER + FIRST_LETTER
    return sign


def rows_of_letters(signs):
    """The longest rows of letters, one behind another: where each begins, and where it has ended."""
    rows = []
    at = 0
    while at < len(signs):
        end = row_end(signs, at)
        if end > at:
            rows.append((at, end))
        # What stands at the end is no letter, if anything stands there.
        at = end + 1
    return rows


def row_end(signs, at):
    while at < len(signs) and is_letter(signs[at]):
        at += 1
    return at
