"""What rules make of a word. No letters at all stand for: no form."""

MOST_FORM_LETTERS = 40


def first_form(rules, letters):
    """What the first of the rules that fits makes of the word."""
    for rule in rules:
        form = form_by_rule(rule, letters)
        if len(form) > 0:
            return form
    return ()


def form_by_rule(rule, letters):
    stays_from = len(rule.front.goes)
    stays_to = len(letters) - len(rule.end.goes)
    # One letter can't go both in front and at the end.
    if stays_from > stays_to:
        return ()
    if letters[:stays_from] != rule.front.goes or letters[stays_to:] != rule.end.goes:
        return ()
    if not fits_front(rule.front.pattern, letters) or not fits_end(rule.end.pattern, letters):
        return ()
    form = rule.front.comes + letters[stays_from:stays_to] + rule.end.comes
    return form if len(form) <= MOST_FORM_LETTERS else ()


def fits_front(pattern, letters):
    return len(pattern) <= len(letters) and fits(pattern, letters[:len(pattern)])


def fits_end(pattern, letters):
    return len(pattern) <= len(letters) and fits(pattern, letters[len(letters) - len(pattern):])


def fits(pattern, letters):
    """Whether each letter is one of those at its place of the pattern."""
    for place, letter in zip(pattern, letters):
        if letter not in place:
            return False
    return True
