"""The rules and words that are kept, what is said of the words, and what is asked of them."""

from bentwords.fitting import MOST_FORM_LETTERS
from bentwords.fitting import first_form
from bentwords.letters import is_row_of_letters
from bentwords.letters import rows_of_letters
from bentwords.letters import taken_as_small
from bentwords.rules import read_rule
from bentwords.steps import one_step_off
from bentwords.table import FormTable

NO_SUCH_WORD = -2
ALREADY_THERE = -17
NOT_ALLOWED = -22
FULL = -28
NO_RULE = -71

LAST_CLASS = 63
LAST_SLOT = 15
MOST_RULES = 512
MOST_RULE_BYTES = 96
MOST_WORDS = 512
MOST_WORD_LETTERS = 24
MOST_SAID = 256
MOST_TEXT_BYTES = 4096


class Lexicon:
    """One object of the calls: each method of a call's name is that call, and gives back the numbers it answers."""

    def __init__(self):
        self.begin()

    def begin(self):
        self.rule_total = 0
        # By class and slot, in the order they came: the first that fits makes the form.
        self.rules_for = {}
        self.words = []
        self.word_numbers = {}
        # By word and slot; no letters where it was said that there is no form.
        self.said = {}
        # Kept up with each rule, word and saying: to make all forms anew whenever one is asked for takes too long.
        self.table = FormTable()
        return [0]

    def rule(self, kind, slot, signs):
        if kind > LAST_CLASS or slot > LAST_SLOT or len(signs) > MOST_RULE_BYTES:
            return [NOT_ALLOWED]
        new_rule = read_rule(signs)
        if new_rule is None:
            return [NO_RULE]
        if self.rule_total == MOST_RULES:
            return [FULL]
        self.rules_for.setdefault((kind, slot), []).append(new_rule)
        self.rule_total += 1
        for number, entry in enumerate(self.words):
            if entry[0] == kind:
                self.try_rules([new_rule], number, slot)
        return [self.rule_total - 1]

    def word(self, kind, signs):
        if kind > LAST_CLASS or not is_row_of_letters(signs, 1, MOST_WORD_LETTERS):
            return [NOT_ALLOWED]
        entry = (kind, tuple(signs))
        if entry in self.word_numbers:
            return [ALREADY_THERE]
        number = len(self.words)
        if number == MOST_WORDS:
            return [FULL]
        self.words.append(entry)
        self.word_numbers[entry] = number
        for slot in range(LAST_SLOT + 1):
            self.try_rules(self.rules_for.get((kind, slot), []), number, slot)
        return [number]

    def try_rules(self, rules, number, slot):
        """What was said, and what a rule before these has made, stays."""
        place = (number, slot)
        if place not in self.said and len(self.table.form_of(place)) == 0:
            self.table.give_form(place, first_form(rules, self.words[number][1]))

    def odd(self, number, slot, signs):
        if slot > LAST_SLOT or not is_row_of_letters(signs, 0, MOST_FORM_LETTERS):
            return [NOT_ALLOWED]
        if number >= len(self.words):
            return [NO_SUCH_WORD]
        if (number, slot) in self.said:
            return [ALREADY_THERE]
        if len(self.said) == MOST_SAID:
            return [FULL]
        self.said[(number, slot)] = tuple(signs)
        self.table.give_form((number, slot), tuple(signs))
        return [0]

    def form(self, number, slot):
        if slot > LAST_SLOT:
            return [NOT_ALLOWED]
        if number >= len(self.words):
            return [NO_SUCH_WORD]
        letters = self.table.form_of((number, slot))
        if len(letters) == 0:
            return [0]
        return [1] + list(letters)

    def found(self, signs, k):
        if not is_row_of_letters(signs, 1, MOST_FORM_LETTERS):
            return [NOT_ALLOWED]
        return one_of(self.table.places_of(tuple(signs)), k)

    def near(self, signs, k):
        if not is_row_of_letters(signs, 1, MOST_FORM_LETTERS):
            return [NOT_ALLOWED]
        # As keys, each stands there once.
        known = {}
        for step in one_step_off(tuple(signs)):
            if self.table.is_known(step):
                known[step] = True
        return one_of(sorted(known), k)

    def check(self, signs, start):
        if len(signs) > MOST_TEXT_BYTES or start > len(signs):
            return [NOT_ALLOWED]
        text = [taken_as_small(sign) for sign in signs[start:]]
        for row in rows_of_letters(text):
            if not self.table.is_known(tuple(text[row[0]:row[1]])):
                return [1, start + row[0], row[1] - row[0]]
        return [0]


def one_of(rows, k):
    """The answer that tells the k-th of these, if there are so many."""
    if k >= len(rows):
        return [0]
    return [1] + list(rows[k])
