"""Promise 3: odd."""

import unittest

from tests.calls import ask, odd, spell, word

# 17 words with 16 slots each have more places than may be said.
WORDS = [word(0, spell(number)) for number in range(17)]
SAID = [odd(number // 16, number % 16, "a") for number in range(256)]


class Odd(unittest.TestCase):
    def test_answers_0(self):
        told = ask(word(0, "ox"), word(0, "sheep"), odd(0, 1, "oxen"), odd(1, 1, "sheep"))
        self.assertEqual(told, [0, 1, 0, 0])

    def test_slot(self):
        told = ask(word(0, "ox"), odd(0, 15, "oxen"), odd(0, 16, "oxen"), odd(0, 4294967295, "oxen"), odd(0, 0, "ox"))
        self.assertEqual(told, [0, 0, -22, -22, 0])

    def test_how_many_letters(self):
        told = ask(word(0, "ox"), odd(0, 0, ""), odd(0, 1, "a"), odd(0, 2, "a" * 40), odd(0, 3, "a" * 41),
                   odd(0, 3, "a" * 60), odd(0, 3, "a"))
        self.assertEqual(told, [0, 0, 0, 0, -22, -22, 0])

    def test_a_to_z_alone_are_letters(self):
        for sign in range(256):
            expected = 0 if sign in b"abcdefghijklmnopqrstuvwxyz" else -22
            with self.subTest(sign=sign):
                for signs in ([sign], [97, sign], [sign, 97], [97, sign, 97], [97] * 39 + [sign]):
                    self.assertEqual(ask(word(0, "ox"), odd(0, 0, signs)), [0, expected])

    def test_no_such_word(self):
        told = ask(odd(0, 0, "a"), word(0, "ox"), odd(1, 0, "a"), odd(4294967295, 0, "a"), odd(0, 0, "a"),
                   word(0, "cow"), odd(1, 0, "a"), odd(2, 0, "a"))
        self.assertEqual(told, [-2, 0, -2, -2, 0, 1, 0, -2])

    def test_said_already(self):
        told = ask(word(0, "ox"), odd(0, 4, "oxen"), odd(0, 4, "oxen"), odd(0, 4, "oxes"), odd(0, 4, ""))
        self.assertEqual(told, [0, 0, -17, -17, -17])

    def test_none_is_said_already_too(self):
        told = ask(word(0, "ox"), odd(0, 4, ""), odd(0, 4, ""), odd(0, 4, "oxen"))
        self.assertEqual(told, [0, 0, -17, -17])

    def test_another_slot_and_another_word(self):
        told = ask(word(0, "ox"), word(1, "ox"), odd(0, 4, "oxen"), odd(0, 5, "oxen"), odd(1, 4, "oxen"),
                   odd(1, 5, "oxen"), odd(0, 4, "oxen"), odd(1, 5, "oxen"))
        self.assertEqual(told, [0, 1, 0, 0, 0, 0, -17, -17])

    def test_256_are_said(self):
        told = ask(*WORDS, *SAID, odd(16, 0, "a"), odd(16, 1, ""), odd(16, 0, "a"))
        self.assertEqual(told[17:], [0] * 256 + [-28, -28, -28])

    def test_none_counts_among_256(self):
        told = ask(*WORDS, *[odd(number // 16, number % 16, "") for number in range(257)])
        self.assertEqual(told[17:], [0] * 256 + [-28])

    def test_the_first_refusal_is_answered(self):
        told = ask(word(0, "ox"), odd(0, 4, "oxen"), odd(1, 16, "a"), odd(1, 0, "A"), odd(1, 0, "a" * 41),
                   odd(0, 4, "A"), odd(0, 4, "a" * 41), odd(1, 4, "oxen"))
        self.assertEqual(told[2:], [-22, -22, -22, -22, -22, -2])

    def test_the_first_refusal_is_answered_when_256_are_said(self):
        told = ask(*WORDS, *SAID, odd(16, 16, "a"), odd(16, 0, "A"), odd(17, 16, "a"), odd(17, 0, "a" * 41),
                   odd(17, 0, "a"), odd(0, 0, "a"), odd(15, 15, ""), odd(16, 0, "a"))
        self.assertEqual(told[17 + 256:], [-22, -22, -22, -22, -2, -17, -17, -28])

    def test_what_is_refused_says_nothing_and_takes_no_room(self):
        refused = [odd(0, 16, "a"), odd(0, 3, "A"), odd(0, 3, "a" * 41), odd(17, 3, "a"), odd(0, 0, "a")]
        told = ask(*WORDS, SAID[0], *refused * 60, *SAID[1:], odd(16, 0, "a"))
        self.assertEqual(told[17:], [0] + [-22, -22, -22, -2, -17] * 60 + [0] * 255 + [-28])

    def test_what_is_refused_leaves_words_as_they_were(self):
        told = ask(odd(0, 0, "ox"), odd(1, 16, "cow"), word(0, "ox"), odd(0, 0, "A"), odd(0, 0, "oxen"), word(0, "oxen"))
        self.assertEqual(told, [-2, -22, 0, -22, 0, 1])


if __name__ == "__main__":
    unittest.main()
