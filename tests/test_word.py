"""Promise 2: word."""

import unittest

from bentwords.lexicon import Lexicon
from tests.calls import ask, odd, rule, spell, word


class Word(unittest.TestCase):
    def test_numbers_count_from_0_over_all_classes(self):
        told = ask(word(0, "cat"), word(63, "dog"), word(5, "a"), word(0, "cats"))
        self.assertEqual(told, [0, 1, 2, 3])

    def test_numbers_of_words_and_rules_are_apart(self):
        told = ask(rule(0, 0, "// //"), word(0, "cat"), rule(0, 0, "// //"), word(0, "dog"))
        self.assertEqual(told, [0, 0, 1, 1])

    def test_class(self):
        told = ask(word(63, "a"), word(64, "a"), word(4294967295, "a"), word(0, "a"), word(64, "b"), word(63, "b"))
        self.assertEqual(told, [0, -22, -22, 1, -22, 2])

    def test_how_many_letters(self):
        told = ask(word(0, ""), word(0, "a"), word(0, "a" * 24), word(0, "a" * 25), word(0, "a" * 40), word(0, "z"))
        self.assertEqual(told, [-22, 0, 1, -22, -22, 2])

    def test_a_to_z_alone_are_letters(self):
        for sign in range(256):
            expected = 0 if sign in b"abcdefghijklmnopqrstuvwxyz" else -22
            with self.subTest(sign=sign):
                for signs in ([sign], [97, sign], [sign, 97], [97, sign, 97], [97] * 23 + [sign]):
                    self.assertEqual(ask(word(0, signs)), [expected])

    def test_great_letters_and_other_bytes(self):
        told = ask(word(0, "Cat"), word(0, "CAT"), word(0, "ca t"), word(0, "cat."), word(0, "cat\0"), word(0, "caf\xe9"))
        self.assertEqual(told, [-22] * 6)

    def test_the_same_word(self):
        told = ask(word(1, "cat"), word(1, "cat"), word(1, "cats"), word(1, "ca"), word(1, "act"), word(1, "cat"))
        self.assertEqual(told, [0, -17, 1, 2, 3, -17])

    def test_the_same_word_of_another_class(self):
        told = ask(word(1, "cat"), word(2, "cat"), word(1, "cat"), word(2, "cat"), word(0, "cat"), word(63, "cat"))
        self.assertEqual(told, [0, 1, -17, -17, 2, 3])

    def test_512_words(self):
        told = ask(*[word(number % 64, spell(number)) for number in range(514)])
        self.assertEqual(told, list(range(512)) + [-28, -28])

    def test_the_first_refusal_is_answered(self):
        told = ask(word(0, "cat"), word(64, "cat"), word(64, ""), word(0, "cat"))
        self.assertEqual(told, [0, -22, -22, -17])

    def test_the_first_refusal_is_answered_when_there_are_512(self):
        told = ask(*[word(0, spell(number)) for number in range(512)], word(64, "a"), word(0, ""), word(0, "a" * 25),
                   word(64, spell(0)), word(0, spell(0)), word(0, spell(511)), word(0, "a"), word(1, spell(0)))
        self.assertEqual(told[512:], [-22, -22, -22, -22, -17, -17, -28, -28])

    def test_what_is_refused_takes_no_number_and_no_room(self):
        refused = [word(64, "dog"), word(0, "dog1"), word(0, ""), word(0, "cat")]
        told = ask(word(0, "cat"), *refused * 20, word(0, "dog"), *[word(1, spell(number)) for number in range(511)])
        self.assertEqual(told, [0] + [-22, -22, -22, -17] * 20 + [1] + list(range(2, 512)) + [-28])

    def test_a_word_that_had_no_room_is_not_there(self):
        told = ask(*[word(0, spell(number)) for number in range(512)], word(0, "a"), word(0, "a"), odd(512, 0, "b"))
        self.assertEqual(told[512:], [-28, -28, -2])

    def test_rules_at_their_bound_leave_room_for_words(self):
        told = ask(*[rule(0, 0, "// //")] * 513, word(0, "a"))
        self.assertEqual(told[512:], [-28, 0])


class WhatIsKept(unittest.TestCase):
    def test_what_is_taken_is_found_again_by_class_slot_and_number(self):
        lexicon = Lexicon()
        lexicon.rule(3, 7, list(b"// /a/b"))
        lexicon.rule(3, 8, list(b"// /c/d"))
        lexicon.rule(3, 7, list(b"// /e/f"))
        lexicon.word(3, list(b"cat"))
        lexicon.word(2, list(b"dog"))
        lexicon.odd(1, 4, list(b"dogs"))
        lexicon.odd(0, 5, [])
        self.assertEqual(sorted(lexicon.rules_for), [(3, 7), (3, 8)])
        self.assertEqual([kept.end.goes for kept in lexicon.rules_for[(3, 7)]], [tuple(b"a"), tuple(b"e")])
        self.assertEqual(lexicon.words, [(3, tuple(b"cat")), (2, tuple(b"dog"))])
        self.assertEqual(lexicon.said, {(1, 4): tuple(b"dogs"), (0, 5): ()})


if __name__ == "__main__":
    unittest.main()
