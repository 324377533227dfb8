"""Promise 7: check."""

import unittest

from tests.calls import BEGIN, check, last_replies, odd, replies, rule, word

LETTERS = b"abcdefghijklmnopqrstuvwxyzABCDEFGHIJKLMNOPQRSTUVWXYZ"

# Known are cat, cats, dog, dogs, a, and x 40 times.
BEFORE = [rule(0, 0, "// //"), rule(0, 1, "// //s"), word(0, "cat"), word(0, "dog"), odd(0, 2, "a"), odd(0, 3, "x" * 40)]


def checked(text, start=0):
    return last_replies(BEFORE, check(text, start))[0]


class Refusals(unittest.TestCase):
    def test_4096_and_4097_bytes(self):
        for sign in (b" ", b"a", b"\xff"):
            expected = [1, 0, 4096] if sign == b"a" else [0]
            self.assertEqual(checked(sign * 4096), expected)
            self.assertEqual(checked(sign * 4097), [-22])
            self.assertEqual(checked(sign * 4200), [-22])
            self.assertEqual(checked(sign * 4097, 4097), [-22])
            self.assertEqual(checked(sign * 4097, 1), [-22])

    def test_from(self):
        self.assertEqual([checked("cat dig", start) for start in (6, 7, 8, 9, 4294967295)],
                         [[1, 6, 1], [0], [-22], [-22], [-22]])
        self.assertEqual([checked("", start) for start in (0, 1, 4294967295)], [[0], [-22], [-22]])
        self.assertEqual([checked(" " * 4096, start) for start in (4095, 4096, 4097)], [[0], [0], [-22]])
        self.assertEqual([checked(" " * 4095 + "b", start) for start in (4095, 4096, 4097)], [[1, 4095, 1], [0], [-22]])


class Words(unittest.TestCase):
    def test_the_first_that_is_not_known(self):
        self.assertEqual(checked("cat dig dug"), [1, 4, 3])
        self.assertEqual(checked("dig cat dug"), [1, 0, 3])
        self.assertEqual(checked("cat dogs  the"), [1, 10, 3])
        self.assertEqual(checked("  ca, cat"), [1, 2, 2])

    def test_all_are_known(self):
        for text in ("cat", "cats", "a", "cat dog", " cat", "cat ", "  cats  dogs. a cat; dog!", "a" + ",a" * 2047):
            self.assertEqual(checked(text), [0], text)

    def test_no_words(self):
        for text in ("", " ", "1234", "....", "@[`{", "\n\t\r", [0, 255, 128]):
            self.assertEqual(checked(text), [0])
            self.assertEqual(replies(check(text, 0)), [[0]])

    def test_nothing_is_known(self):
        self.assertEqual(replies(check("cat", 0), check(" a", 0), check("", 0)), [[1, 0, 3], [1, 1, 1], [0]])

    def test_a_word_is_not_known_unless_it_is_a_form(self):
        self.assertEqual(replies(word(0, "cat"), check("cat", 0)), [[0], [1, 0, 3]])

    def test_the_longest_rows(self):
        self.assertEqual(checked("catdog"), [1, 0, 6])
        self.assertEqual(checked("cat-catcat"), [1, 4, 6])
        self.assertEqual(checked("aa"), [1, 0, 2])
        self.assertEqual(checked("cat's"), [1, 4, 1])

    def test_great_letters_are_taken_as_small(self):
        self.assertEqual(checked("Cat CAT cAt caT A DOGS"), [0])
        self.assertEqual(checked("CAT Dig"), [1, 4, 3])
        self.assertEqual(checked("catDOG"), [1, 0, 6])
        self.assertEqual(checked("X" * 20 + "x" * 20), [0])

    def test_each_great_letter_is_its_small_one(self):
        for at in range(26):
            small, great = chr(97 + at), chr(65 + at)
            before = [word(0, "a"), odd(0, 0, small)]
            for other in range(26):
                expected = [0] if other == at else [1, 0, 1]
                self.assertEqual(last_replies(before, check(chr(65 + other), 0)), [expected])
                self.assertEqual(last_replies(before, check(chr(97 + other), 0)), [expected])
            self.assertEqual(last_replies(before, check(f"{great}{small}", 0)), [[1, 0, 2]])

    def test_signs_that_are_no_letters_part_words(self):
        for sign in range(256):
            parted = list(b"cat") + [sign] + list(b"dog")
            alone = [sign]
            with self.subTest(sign=sign):
                if sign in LETTERS:
                    self.assertEqual(checked(parted), [1, 0, 7])
                    self.assertEqual(checked(alone), [0] if sign in b"aA" else [1, 0, 1])
                else:
                    self.assertEqual(checked(parted), [0])
                    self.assertEqual(checked(alone), [0])
                    self.assertEqual(checked([sign, sign] + parted + [sign, 98]), [1, 10, 1])

    def test_signs_beside_the_letters(self):
        for sign in (64, 91, 96, 123, 0, 255):
            self.assertEqual(checked([sign, 97, sign, 65, sign]), [0])
        self.assertEqual([checked([sign]) for sign in (65, 90, 97, 122)], [[0], [1, 0, 1], [0], [1, 0, 1]])

    def test_rows_of_40_and_more(self):
        self.assertEqual(checked("x" * 40), [0])
        self.assertEqual(checked("x" * 41), [1, 0, 41])
        self.assertEqual(checked("a " + "x" * 80 + " b"), [1, 2, 80])
        self.assertEqual(checked("." + "x" * 4095), [1, 1, 4095])
        self.assertEqual(checked("x" * 41, 1), [0])

    def test_the_last_byte(self):
        self.assertEqual(checked("a " * 2047 + " b"), [1, 4095, 1])
        self.assertEqual(checked(" " * 4093 + "cat"), [0])
        self.assertEqual(checked(" " * 4093 + "cab"), [1, 4093, 3])


class From(unittest.TestCase):
    def test_where_it_begins_is_told_in_t(self):
        self.assertEqual([checked("dig cat dug", start) for start in (0, 3, 4, 7, 8, 10, 11)],
                         [[1, 0, 3], [1, 8, 3], [1, 8, 3], [1, 8, 3], [1, 8, 3], [1, 10, 1], [0]])

    def test_in_the_middle_of_a_row(self):
        self.assertEqual(checked("bobcat", 3), [0])
        self.assertEqual(checked("bobcat", 2), [1, 2, 4])
        self.assertEqual(checked("bobcat", 5), [1, 5, 1])
        self.assertEqual(checked("cat", 1), [1, 1, 2])
        self.assertEqual(checked("bobcat dug", 3), [1, 7, 3])
        self.assertEqual(checked("zA", 1), [0])

    def test_what_is_before_is_not_looked_at(self):
        self.assertEqual(checked("dug dig cat", 8), [0])
        self.assertEqual(checked("b" * 4093 + "cat", 4093), [0])

    def test_at_the_end(self):
        self.assertEqual(checked("dug", 3), [0])
        self.assertEqual(checked("b" * 4096, 4096), [0])


class AsCallsCome(unittest.TestCase):
    def test_what_is_known_grows(self):
        told = replies(check("cats", 0), word(0, "cat"), check("cats", 0), rule(0, 0, "// //s"), check("cats cat", 0),
                       odd(0, 1, "cat"), check("cats cat", 0))
        self.assertEqual(told[0::2], [[1, 0, 4], [1, 0, 4], [1, 5, 3], [0]])

    def test_what_was_said_hides_what_was_made(self):
        before = [rule(0, 0, "// //s"), word(0, "cat")]
        self.assertEqual(last_replies(before, check("cats", 0)), [[0]])
        self.assertEqual(last_replies(before, odd(0, 0, "kits"), check("kits cats", 0)), [[0], [1, 5, 4]])
        self.assertEqual(last_replies(before, odd(0, 0, ""), check("cats", 0)), [[0], [1, 0, 4]])

    def test_asking_changes_nothing(self):
        told = last_replies(BEFORE, *[check("Cat dig", 0), check("cat", 4), check("Cat", 0)] * 3)
        self.assertEqual(told, [[1, 4, 3], [-22], [0]] * 3)

    def test_begin_again(self):
        told = last_replies(BEFORE, check("cat", 0), BEGIN, check("cat", 0), check("a", 0), word(0, "cat"),
                            check("cat", 0), rule(0, 0, "// //"), check("cat", 0), check("cats", 0))
        self.assertEqual(told, [[0], [0], [1, 0, 3], [1, 0, 1], [0], [1, 0, 3], [0], [0], [1, 0, 4]])


if __name__ == "__main__":
    unittest.main()
