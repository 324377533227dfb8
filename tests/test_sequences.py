"""Promises 1 to 3 together: long rows of calls, held against a plain second reading of the document."""

import random
import unittest

from bentwords.forms import answers
from tests.calls import BEGIN, line, odd, rule, word


class Model:
    def __init__(self):
        self.rules = 0
        self.words = []
        self.said = []

    def answer(self, name, *handed):
        return getattr(self, name)(*handed)

    def begin(self):
        self.__init__()
        return 0

    def rule(self, kind, slot, text):
        if kind > 63 or slot > 15 or len(text) > 96:
            return -22
        if text == "no rule":
            return -71
        if self.rules == 512:
            return -28
        self.rules += 1
        return self.rules - 1

    def word(self, kind, text):
        if kind > 63 or not (text.isalpha() and text.islower() and len(text) < 25):
            return -22
        if (kind, text) in self.words:
            return -17
        if len(self.words) == 512:
            return -28
        self.words.append((kind, text))
        return len(self.words) - 1

    def odd(self, number, slot, text):
        if slot > 15 or text != "" and not (text.isalpha() and text.islower() and len(text) < 41):
            return -22
        if number not in range(len(self.words)):
            return -2
        if (number, slot) in self.said:
            return -17
        if len(self.said) == 256:
            return -28
        self.said.append((number, slot))
        return 0


def any_text(chance, longest):
    length = chance.choice([1, 1, 1, 2, 2, 2, 2, 2, 2, 0, longest, longest + 1])
    return "".join(chance.choice("abcdefghijklmnopqrstuvwxyz") for _ in range(length)) + chance.choice([""] * 9 + ["B"])


def any_call(chance, begins):
    name = chance.choice(["rule", "word", "word", "odd", "begin"] if chance.random() < begins else ["word", "odd", "odd"])
    kind = chance.choice([0, 1, 62, 63, 64])
    slot = chance.choice([*range(17), 15, 14])
    if name == "begin":
        return BEGIN, (name,)
    if name == "rule":
        text = chance.choice(["// //s", ".// y/y/ies", "no rule", "// //" + "a" * 92])
        return rule(kind, slot, text), (name, kind, slot, text)
    if name == "word":
        text = any_text(chance, 24)
        return word(kind, text), (name, kind, text)
    number = chance.choice([chance.randrange(40), chance.randrange(600)])
    text = any_text(chance, 40)
    return odd(number, slot, text), (name, number, slot, text)


class Sequences(unittest.TestCase):
    def test_rows_of_calls(self):
        met = set()
        for seed in range(200):
            chance = random.Random(seed)
            begins = chance.choice([0, 0, 0.05, 0.3])
            length = chance.choice([20, 100, 1100])
            model = Model()
            calls = [BEGIN]
            expected = [1, 0]
            for _ in range(length):
                call, told = any_call(chance, begins)
                answer = model.answer(*told)
                met.add((told[0], min(answer, 0)))
                calls.append(call)
                expected += [1, answer]
            self.assertEqual(answers(line(*calls)), expected)
        refused = {(name, number) for name, number in met if number < 0}
        self.assertEqual(refused, {("rule", -22), ("rule", -71), ("word", -22), ("word", -17),
                                   ("odd", -22), ("odd", -2), ("odd", -17), ("odd", -28)})


if __name__ == "__main__":
    unittest.main()
