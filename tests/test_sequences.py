"""All promises together: long rows of calls, held against a plain second reading of the document."""

import random
import unittest

from bentwords.forms import answers
from tests import calls as written
from tests.calls import BEGIN, line, split
from tests.model import Model

ALPHABET = "abcdefghijklmnopqrstuvwxyz"


def any_letters(chance, letters, longest):
    return "".join(chance.choice(letters) for _ in range(chance.randrange(longest + 1)))


class AnyCall:
    """Calls by chance, as a name and what is handed in; few letters are used, so that much meets."""

    def __init__(self, chance, names, letters, kinds, slots, words):
        self.chance = chance
        self.names = names
        self.letters = letters
        self.kinds = kinds
        self.slots = slots
        self.words = words

    def call(self):
        name = self.chance.choice(self.names)
        return (name, *getattr(self, name)())

    def seldom(self, rare, usual):
        return self.chance.choice(rare) if self.chance.random() < 0.03 else usual

    def kind(self):
        return self.seldom([62, 63, 64, 4294967295], self.chance.randrange(self.kinds))

    def slot(self):
        return self.seldom([14, 15, 16, 4294967295], self.chance.randrange(self.slots))

    def number(self):
        return self.seldom([511, 512, 4294967295], self.chance.randrange(self.words))

    def k(self):
        return self.seldom([4294967295], self.chance.choice([0, 0, 0, 1, 1, 2, 3, 5, 9]))

    def text(self, longest):
        usual = any_letters(self.chance, self.letters, self.chance.choice([2, 4, 4, 6])) or self.letters[0]
        return self.seldom(["", "A", "a.", "a" * longest, "b" * (longest + 1)], usual)

    def piece(self):
        return self.chance.choice(["", "", any_letters(self.chance, self.letters, self.chance.choice([1, 1, 2, 3]))])

    def coming(self):
        return self.seldom(["ab" * 8, "c" * 16], self.piece())

    def pattern(self):
        letters = self.letters
        places = [letters[0], letters[-1], ".", ".", f"[{letters[:2]}]", f"[^{letters[0]}]", f"[^{letters[1:]}]",
                  f"[{letters}]", f"[^{ALPHABET}]"]
        most = self.chance.choice([1, 1, 2, 4])
        return "".join(self.chance.choice(places[:-1] * 4 + places[-1:]) for _ in range(self.chance.randrange(most)))

    def begin(self):
        return ()

    def rule(self):
        parts = [f"{self.pattern()}/{self.piece()}/{self.coming()}" for _ in range(2)]
        return self.kind(), self.slot(), self.seldom(["no rule", "// //" + "a" * 92, "/a/ [b//", "// //"], " ".join(parts))

    def word(self):
        return self.kind(), self.text(24)

    def odd(self):
        return self.number(), self.slot(), self.chance.choice(["", self.text(40), self.text(40)])

    def form(self):
        return self.number(), self.slot()

    def found(self):
        return self.text(40), self.k()

    def near(self):
        return self.text(40), self.k()

    def check(self):
        signs = self.letters + self.letters.upper()
        rows = [any_letters(self.chance, signs, 4) + self.chance.choice(" .@[`{\0\xff") for _ in range(3)]
        text = "".join(rows)[self.chance.randrange(3):]
        return text, self.chance.choice([0, self.chance.randrange(len(text) + 3)])


class Sequences(unittest.TestCase):
    def run_calls(self, some, length, met):
        model = Model()
        calls = [BEGIN]
        expected = [[0]]
        for _ in range(length):
            told = some.call()
            answer = model.answer(*told)
            met[told[0], min(answer[0], 1)] = met.get((told[0], min(answer[0], 1)), 0) + 1
            calls.append(BEGIN if told[0] == "begin" else getattr(written, told[0])(*told[1:]))
            expected.append(answer)
        handed = line(*calls)
        self.assertLessEqual(len(handed), 30000)
        before = list(handed)
        told = answers(handed)
        self.assertEqual(split(told), expected)
        self.assertEqual(handed, before)

    def test_rows_of_all_calls(self):
        met = {}
        asked = ["form", "form", "found", "found", "near", "near", "check", "check"]
        for seed in range(120):
            chance = random.Random(seed)
            made = chance.choice([["rule", "word"], ["rule", "word", "odd"], ["rule", "rule", "word", "odd", "odd"]])
            names = made * 2 + asked + chance.choice([[], [], ["begin"]])
            some = AnyCall(chance, names, chance.choice(["ab", "ab", "abc", "abz"]), chance.choice([1, 2, 3]),
                           chance.choice([1, 2, 4]), chance.choice([3, 8, 20]))
            self.run_calls(some, chance.choice([30, 60, 150]), met)
        wanted = [("rule", -22), ("rule", -71), ("word", -22), ("word", -17), ("odd", -22), ("odd", -2), ("odd", -17),
                  ("form", -22), ("form", -2), ("form", 0), ("form", 1), ("found", -22), ("found", 0), ("found", 1),
                  ("near", -22), ("near", 0), ("near", 1), ("check", -22), ("check", 0), ("check", 1), ("begin", 0)]
        for name in wanted:
            self.assertGreater(met.get(name, 0), 9, name)

    def test_rows_of_calls_that_fill_it(self):
        met = {}
        for seed in range(40):
            chance = random.Random(seed)
            names = chance.choice([["word", "odd", "odd"], ["rule", "rule", "word"], ["word"] * 4 + ["rule"]])
            some = AnyCall(chance, names, ALPHABET, 3, 16, chance.choice([40, 600]))
            self.run_calls(some, 1100, met)
        for name in (("rule", -28), ("word", -28), ("odd", -28), ("odd", -2), ("odd", -17)):
            self.assertGreater(met.get(name, 0), 9, name)


if __name__ == "__main__":
    unittest.main()
