"""Rules, and how they are read from the texts that tell them."""

from bentwords.letters import is_letter
from bentwords.letters import is_row_of_letters
from bentwords.letters import letters_without

BLANK = 32
DOT = 46
SLASH = 47
OPENING = 91
CLOSING = 93
CARET = 94

MOST_PLACES = 16
MOST_GOING = 16
MOST_COMING = 16


class Part:
    """What a rule asks and does at one side of a word.

    The pattern has, for each of its places, a tuple of the letters that fit there.
    """

    def __init__(self, pattern, goes, comes):
        self.pattern = pattern
        self.goes = goes
        self.comes = comes


class Rule:
    """A part for the word's front, and one for its end."""

    def __init__(self, front, end):
        self.front = front
        self.end = end


def read_rule(signs):
    """The rule that is told by these, or None."""
    # Blanks and slashes are allowed nowhere within a piece, brackets too: so all of them part pieces.
    rows = split_at(signs, BLANK)
    if len(rows) != 2:
        return None
    front = read_part(rows[0])
    end = read_part(rows[1])
    if front is None or end is None:
        return None
    return Rule(front, end)


def read_part(signs):
    pieces = split_at(signs, SLASH)
    if len(pieces) != 3:
        return None
    pattern = read_pattern(pieces[0])
    if pattern is None:
        return None
    if not is_row_of_letters(pieces[1], 0, MOST_GOING) or not is_row_of_letters(pieces[2], 0, MOST_COMING):
        return None
    return Part(pattern, tuple(pieces[1]), tuple(pieces[2]))


def read_pattern(signs):
    places = []
    at = 0
    while at < len(signs):
        size = place_size(signs, at)
        place = read_place(signs[at:at + size])
        if place is None:
            return None
        places.append(place)
        at += size
    if len(places) > MOST_PLACES:
        return None
    return tuple(places)


def place_size(signs, at):
    """How many signs tell the place that begins there: brackets reach to the first that closes, if any."""
    if signs[at] != OPENING:
        return 1
    end = at + 1
    while end < len(signs) and signs[end - 1] != CLOSING:
        end += 1
    return end - at


def read_place(signs):
    """The letters that fit at a place, or None. There may be none that fits: [^ ] can name them all."""
    if signs[0] == OPENING:
        return read_brackets(signs)
    if signs[0] == DOT:
        return letters_without([])
    if is_letter(signs[0]):
        return (signs[0],)
    return None


def read_brackets(signs):
    if signs[-1] != CLOSING:
        return None
    named = signs[1:-1]
    if len(named) > 0 and named[0] == CARET:
        others = named[1:]
        return letters_without(others) if is_row_of_letters(others, 1, len(signs)) else None
    return tuple(named) if is_row_of_letters(named, 1, len(signs)) else None


def split_at(signs, mark):
    """The rows before, between and behind the marks."""
    rows = []
    row = []
    for sign in signs:
        if sign == mark:
            rows.append(row)
            row = []
        else:
            row.append(sign)
    rows.append(row)
    return rows
