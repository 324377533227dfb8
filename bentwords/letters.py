"""Letters, a to z, as the numbers that stand for them in a byte string."""

FIRST_LETTER = 97
LAST_LETTER = 122


def is_letter(sign):
    return FIRST_LETTER <= sign <= LAST_LETTER


def is_row_of_letters(signs, least, most):
    """Whether these are letters alone, and as many as allowed."""
    return least <= len(signs) <= most and all([is_letter(sign) for sign in signs])


def letters_without(those):
    return tuple([letter for letter in range(FIRST_LETTER, LAST_LETTER + 1) if letter not in those])
