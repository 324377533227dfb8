"""The rules and words that are kept, and what is said of the words."""

from bentwords.letters import is_row_of_letters
from bentwords.rules import read_rule

NO_SUCH_WORD = -2
ALREADY_THERE = -17
NOT_ALLOWED = -22
FULL = -28
NO_RULE = -71

LAST_CLASS = 63
LAST_SLOT = 15
MOST_RULES = 512
MOST_RULE_BYTES = 96
MOST_WORDS = 512
MOST_WORD_LETTERS = 24
MOST_SAID = 256
MOST_FORM_LETTERS = 40


class Lexicon:
    """One object of the calls: each method is the call of its name, and answers its number."""

    def __init__(self):
        self.begin()

    def begin(self):
        self.rule_total = 0
        # By class and slot, in the order they came: the first that fits makes the form.
        self.rules_for = {}
        self.words = []
        self.word_numbers = {}
        # By word and slot; no letters where it was said that there is no form.
        self.said = {}
        return 0

    def rule(self, kind, slot, signs):
        if kind > LAST_CLASS or slot > LAST_SLOT or len(signs) > MOST_RULE_BYTES:
            return NOT_ALLOWED
        new_rule = read_rule(signs)
        if new_rule is None:
            return NO_RULE
        if self.rule_total == MOST_RULES:
            return FULL
        self.rules_for.setdefault((kind, slot), []).append(new_rule)
        self.rule_total += 1
        return self.rule_total - 1

    def word(self, kind, signs):
        if kind > LAST_CLASS or not is_row_of_letters(signs, 1, MOST_WORD_LETTERS):
            return NOT_ALLOWED
        entry = (kind, tuple(signs))
        if entry in self.word_numbers:
            return ALREADY_THERE
        number = len(self.words)
        if number == MOST_WORDS:
            return FULL
        self.words.append(entry)
        self.word_numbers[entry] = number
        return number

    def odd(self, number, slot, signs):
        if slot > LAST_SLOT or not is_row_of_letters(signs, 0, MOST_FORM_LETTERS):
            return NOT_ALLOWED
        if number >= len(self.words):
            return NO_SUCH_WORD
        if (number, slot) in self.said:
            return ALREADY_THERE
        if len(self.said) == MOST_SAID:
            return FULL
        self.said[(number, slot)] = tuple(signs)
        return 0
