"""A plain second reading of the document, over texts: everything is made anew whenever it is asked."""

import re

PART = r"((?:[a-z.]|\[\^?[a-z]+\]){0,16})/([a-z]{0,16})/([a-z]{0,16})"
RULE = re.compile(PART + " " + PART)


def is_letters(text, least, most):
    return re.fullmatch("[a-z]{%d,%d}" % (least, most), text) is not None


def made(rule, text):
    """What a rule makes of a word, or None. A pattern means the same to Python's re."""
    front, front_goes, front_comes, end, end_goes, end_comes = rule
    if not re.match(front, text) or not re.search(f"(?:{end})$", text):
        return None
    if not re.fullmatch(f"{front_goes}.*{end_goes}", text):
        return None
    form = front_comes + text[len(front_goes):len(text) - len(end_goes)] + end_comes
    return form if 1 <= len(form) <= 40 else None


def is_one_step(text, other):
    if abs(len(text) - len(other)) == 1:
        short, long = sorted((text, other), key=len)
        return any(short == long[:at] + long[at + 1:] for at in range(len(long)))
    if len(text) != len(other):
        return False
    differ = [at for at in range(len(text)) if text[at] != other[at]]
    if len(differ) == 2:
        first, second = differ
        return second == first + 1 and text[first] == other[second] and text[second] == other[first]
    return len(differ) == 1


class Model:
    """Each call answers a list of numbers; texts are handed in as texts of Python's."""

    def __init__(self):
        self.rules = []
        self.words = []
        self.said = {}

    def answer(self, name, *handed):
        return getattr(self, name)(*handed)

    def begin(self):
        self.__init__()
        return [0]

    def rule(self, kind, slot, text):
        if kind > 63 or slot > 15 or len(text) > 96:
            return [-22]
        told = RULE.fullmatch(text)
        if told is None:
            return [-71]
        if len(self.rules) == 512:
            return [-28]
        self.rules.append((kind, slot, told.groups()))
        return [len(self.rules) - 1]

    def word(self, kind, text):
        if kind > 63 or not is_letters(text, 1, 24):
            return [-22]
        if (kind, text) in self.words:
            return [-17]
        if len(self.words) == 512:
            return [-28]
        self.words.append((kind, text))
        return [len(self.words) - 1]

    def odd(self, number, slot, text):
        if slot > 15 or not is_letters(text, 0, 40):
            return [-22]
        if number not in range(len(self.words)):
            return [-2]
        if (number, slot) in self.said:
            return [-17]
        if len(self.said) == 256:
            return [-28]
        self.said[number, slot] = text
        return [0]

    def form_of(self, number, slot):
        if (number, slot) in self.said:
            return self.said[number, slot] or None
        kind, text = self.words[number]
        forms = [made(rule[2], text) for rule in self.rules if rule[:2] == (kind, slot)]
        return next((form for form in forms if form is not None), None)

    def places(self):
        return [(number, slot) for number in range(len(self.words)) for slot in range(16)]

    def known(self):
        return {self.form_of(*place) for place in self.places()} - {None}

    def form(self, number, slot):
        if slot > 15:
            return [-22]
        if number not in range(len(self.words)):
            return [-2]
        form = self.form_of(number, slot)
        return [0] if form is None else [1, *form.encode()]

    def found(self, text, k):
        if not is_letters(text, 1, 40):
            return [-22]
        places = [place for place in self.places() if self.form_of(*place) == text]
        return [1, *places[k]] if k < len(places) else [0]

    def near(self, text, k):
        if not is_letters(text, 1, 40):
            return [-22]
        texts = sorted(other for other in self.known() if is_one_step(text, other))
        return [1, *texts[k].encode()] if k < len(texts) else [0]

    def check(self, text, start):
        if len(text) > 4096 or start > len(text):
            return [-22]
        known = self.known()
        for told in re.compile("[A-Za-z]+").finditer(text, start):
            if told.group().lower() not in known:
                return [1, told.start(), len(told.group())]
        return [0]
