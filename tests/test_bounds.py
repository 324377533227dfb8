"""Whole lines at the bounds of the interface: 1200 calls, 30000 numbers, 512 rules, 512 words, 256 said."""

import unittest

from bentwords.forms import answers
from tests.calls import BEGIN, check, form, found, line, near, odd, one, rule, spell, split, word
from tests.model import is_one_step


class Bounds(unittest.TestCase):
    def answered(self, *calls):
        """Answers to begin and these calls, the same each time, with what was handed in left as it was."""
        handed = line(BEGIN, *calls)
        self.assertLessEqual(len(calls) + 1, 1200)
        self.assertLessEqual(len(handed), 30000)
        before = list(handed)
        told = answers(handed)
        self.assertEqual(handed, before)
        self.assertEqual({number.__class__ for number in handed}, {int})
        self.assertEqual(answers(handed), told)
        self.assertIs(told.__class__, list)
        self.assertEqual({number.__class__ for number in told}, {int})
        parts = split(told)
        self.assertEqual(len(parts), len(calls) + 1)
        return parts[1:]

    def test_512_rules_and_512_words_in_1200_calls(self):
        # Each class and half of the slots has a rule; each class has 8 words.
        rules = [rule(number % 64, number // 64, f"//{spell(number)[:2]} //s") for number in range(512)]
        words = [word(number % 64, spell(number)) for number in range(512)]
        forms = {(number, slot): spell(number % 64 + 64 * slot)[:2] + spell(number) + "s"
                 for number in range(512) for slot in range(8)}
        self.assertEqual(len(set(forms.values())), 4096)
        places = list(forms)[::96]
        asked, expected = [], []
        for place in places:
            text = forms[place]
            nearest = min(other for other in forms.values() if is_one_step(text[1:], other))
            asked += [form(*place), found(text, 0), found(text, 1), near(text[1:], 0)]
            expected += [one(text), [1, *place], [0], one(nearest)]
        self.assertLessEqual(1024 + len(asked), 1199)
        asked += [form(0, 8)] * (1199 - 1024 - len(asked))
        expected += [[0]] * (len(asked) - len(expected))
        calls = rules + words + asked
        self.assertEqual(len(calls) + 1, 1200)
        numbers = [[number] for number in range(512)]
        self.assertEqual(self.answered(*calls), numbers + numbers + expected)
        self.assertEqual(self.answered(*words, *rules, *asked), numbers + numbers + expected)

    def test_one_rule_that_fits_behind_511_that_do_not(self):
        rules = [rule(5, 9, ".[^e-z]// //".replace("e-z", "abcdefghijklmnopqrst"))] * 511 + [rule(5, 9, "// //x")]
        words = [word(5, spell(number)) for number in range(512)]
        asked = [form(number, 9) for number in range(0, 512, 3)]
        expected = []
        for number in range(0, 512, 3):
            # Only words whose second letter is none of those told fit the rules before the last.
            expected.append(one(spell(number) + ("x" if spell(number)[1] <= "t" else "")))
        told = self.answered(*words, *rules, *asked)[1024:]
        self.assertEqual(told, expected)
        self.assertEqual(self.answered(*rules, *words, *asked)[1024:], expected)

    def test_512_words_and_256_said(self):
        words = [word(number % 64, spell(number)) for number in range(512)]
        said = [odd(511 - number, number % 16, "same" if number % 2 else "seem") for number in range(256)]
        places = sorted((511 - number, number % 16) for number in range(256) if number % 2)
        asked = [found("same", k) for k in range(130)] + [odd(0, 0, "same"), near("sae", 0), near("sae", 1)]
        told = self.answered(*words, *said, *asked)[768:]
        self.assertEqual(told, [[1, *place] for place in places] + [[0]] * 2 + [[-28], one("same"), [0]])

    def test_512_rules_and_256_said(self):
        rules = [rule(0, number % 16, "// //s") for number in range(512)]
        words = [word(0, spell(number)) for number in range(17)]
        said = [odd(number // 16, number % 16, "") for number in range(256)]
        asked = [form(number // 16, number % 16) for number in range(0, 272)]
        told = self.answered(*words, *said, *rules, odd(16, 0, ""), *asked)[17 + 256 + 512:]
        self.assertEqual(told, [[-28]] + [[0]] * 256 + [one(spell(16) + "s")] * 16)

    def test_30000_numbers_of_check(self):
        before = [word(0, "a"), odd(0, 0, "a"), odd(0, 1, "b" * 40)]
        text = ("a" + " " + "B" * 40 + ".") * 95
        text += " " * (4094 - len(text)) + "Az"
        asked = [check(text, 0), check(text, 4095), check(text, 4096), check(text[:4094], 0), check(text + "a", 0),
                 check(text, 1), check("a" * 4096, 0)]
        length = len(line(BEGIN, *before, *asked))
        rest = 30000 - length - 3
        asked.append(check("\xff" * rest, rest))
        self.assertEqual(len(line(BEGIN, *before, *asked)), 30000)
        told = self.answered(*before, *asked)[3:]
        self.assertEqual(told, [[1, 4094, 2], [1, 4095, 1], [0], [0], [-22], [1, 4094, 2], [1, 0, 4096], [0]])

    def test_30000_numbers_of_near(self):
        forty = "ab" * 20
        texts = [forty[:at] + "z" + forty[at + 1:] for at in range(0, 40, 3)] + [forty[:39], forty[1:], forty]
        before = [word(0, "a")] + [odd(0, slot, text) for slot, text in enumerate(texts[:16])]
        nearest = sorted(text for text in texts[:16] if text != forty)
        asked = [near(forty, k % 20) for k in range(681)]
        rest = 30000 - len(line(BEGIN, *before, *asked)) - 3
        asked.append(near("b" * rest, 0))
        self.assertEqual(len(line(BEGIN, *before, *asked)), 30000)
        told = self.answered(*before, *asked)[len(before):]
        expected = [one(nearest[k % 20]) if k % 20 < len(nearest) else [0] for k in range(681)]
        self.assertEqual(told, expected + [[0]])

    def test_1200_calls_that_begin_again_and_again(self):
        once = [word(0, "a"), rule(0, 0, "// //b"), form(0, 0), found("ab", 0), near("abc", 0), check("AB", 0),
                odd(0, 0, ""), check("ab", 0), BEGIN, found("ab", 0)]
        told = self.answered(*once * 119)
        self.assertEqual(told, [[0], [0], one("ab"), [1, 0, 0], one("ab"), [0], [0], [1, 0, 2], [0], [0]] * 119)

    def test_the_most_answers(self):
        before = [word(0, "a"), odd(0, 0, "b" * 40)]
        self.assertEqual(self.answered(*before, *[form(0, 0)] * 1197)[2:], [one("b" * 40)] * 1197)

    def test_nothing_is_kept_from_one_line_to_the_next(self):
        self.answered(rule(0, 0, "// //s"), word(0, "cat"), odd(0, 1, "kit"))
        told = self.answered(form(0, 0), found("cats", 0), near("cat", 0), check("kit", 0), word(0, "cat"), form(0, 0))
        self.assertEqual(told, [[-2], [0], [0], [1, 0, 3], [0], [0]])


if __name__ == "__main__":
    unittest.main()
