"""Promise 6: near."""

import itertools
import unittest

from tests.calls import BEGIN, last_replies, near, odd, one, replies, rule, spell, word

ALPHABET = "abcdefghijklmnopqrstuvwxyz"


def known(*texts):
    """Calls behind which these are known, and nothing else."""
    words = [word(0, spell(number)) for number in range((len(texts) + 15) // 16)]
    return words + [odd(at // 16, at % 16, text) for at, text in enumerate(texts)]


def all_near(before, text, most=60):
    """Near ones from 0 on; behind the last there is none."""
    told = last_replies(before, *[near(text, k) for k in range(most)])
    texts = [bytes(answer[1:]).decode() for answer in told if answer != [0]]
    if told != [one(letters) for letters in texts] + [[0]] * (most - len(texts)):
        raise AssertionError(f"not all in a row: {told}")
    return texts


class Refusals(unittest.TestCase):
    BEFORE = known("b", "a" * 39, "a" * 40)

    def test_how_many_letters(self):
        told = last_replies(self.BEFORE, near("", 0), near("a", 0), near("a" * 40, 0), near("a" * 41, 0),
                            near("a" * 60, 0), near("a" * 39, 0), near("a" * 38, 0))
        self.assertEqual(told, [[-22], one("b"), one("a" * 39), [-22], [-22], one("a" * 40), one("a" * 39)])

    def test_whatever_k_is(self):
        told = last_replies(self.BEFORE, near("", 5), near("a" * 41, 4294967295), near("A", 1), near("a", 1))
        self.assertEqual(told, [[-22], [-22], [-22], [0]])

    def test_a_to_z_alone_are_letters(self):
        for sign in range(256):
            may_stand = sign in ALPHABET.encode()
            with self.subTest(sign=sign):
                self.assertEqual(last_replies(known("aaa"), near([97, sign], 0))[0][0],
                                 1 if sign == 97 else 0 if may_stand else -22)
                for signs in ([sign], [sign] + [97] * 7, [97] * 39 + [sign]):
                    self.assertEqual(last_replies(known("zzzz"), near(signs, 0)), [[0] if may_stand else [-22]])

    def test_nothing_is_there(self):
        self.assertEqual(replies(near("a", 0), near("", 0), near("a", 4294967295)), [[0], [-22], [0]])


class Steps(unittest.TestCase):
    def assert_near(self, text, *others):
        for other in others:
            with self.subTest(text=text, other=other):
                self.assertEqual(all_near(known(other), text, 3), [other])
                self.assertEqual(all_near(known(text), other, 3), [text])

    def assert_far(self, text, *others):
        for other in others:
            with self.subTest(text=text, other=other):
                self.assertEqual(all_near(known(other), text, 3), [])
                self.assertEqual(all_near(known(text), other, 3), [])

    def test_a_letter_taken_out_or_put_in(self):
        self.assert_near("abcd", "bcd", "acd", "abd", "abc")
        self.assert_near("aab", "ab", "aa")
        self.assert_near("a", "aa", "ab", "ba", "za", "az")
        self.assert_near("b" + "a" * 39, "a" * 39)
        self.assert_near("a" * 39 + "b", "a" * 39)

    def test_a_letter_changed(self):
        self.assert_near("abcd", "zbcd", "azcd", "abzd", "abcz", "bbcd", "abcc")
        self.assert_near("a", *ALPHABET[1:])
        self.assert_near("m", *[letter for letter in ALPHABET if letter != "m"])

    def test_two_beside_one_another_changed_about(self):
        self.assert_near("abcd", "bacd", "acbd", "abdc")
        self.assert_near("ab", "ba")
        self.assert_near("ab" + "c" * 38, "ba" + "c" * 38)
        self.assert_near("c" * 38 + "ab", "c" * 38 + "ba")

    def test_each_letter_at_each_place_is_put_in_and_changed(self):
        for text in ("a", "ma", "zam"):
            for letter in ALPHABET:
                for at in range(len(text) + 1):
                    self.assertEqual(all_near(known(text[:at] + letter + text[at:]), text, 2),
                                     [text[:at] + letter + text[at:]])
                for at in range(len(text)):
                    changed = text[:at] + letter + text[at + 1:]
                    self.assertEqual(all_near(known(changed), text, 2), [changed] if changed != text else [])

    def test_two_steps_are_too_many(self):
        self.assert_far("abcd", "ab", "cd", "bc", "ad", "abcdef", "zabcdz", "zzcd", "azcz", "badc", "cbad", "bcad",
                        "dbca", "bacz", "bcda", "dabc", "bac", "bcde", "zbc", "abzzcd", "efgh")
        self.assert_far("a", "bb", "abc", "bc", "aaa")
        self.assert_far("ab", "c", "bca", "bac", "cba", "cd")

    def test_two_that_are_not_beside_one_another(self):
        self.assert_far("abc", "cba")
        self.assert_far("abcd", "dbca", "adcb", "cbad")

    def test_it_is_not_near_itself(self):
        for text in ("a", "aa", "aaa", "aab", "abab", "a" * 40):
            self.assertEqual(all_near(known(text), text, 3), [])
        self.assertEqual(all_near(known("aa", "ab", "a", "aaa"), "aa"), ["a", "aaa", "ab"])
        self.assertEqual(all_near(known("a" * 40, "a" * 39), "a" * 40), ["a" * 39])

    def test_great_letters_are_not_taken_as_small(self):
        self.assertEqual(last_replies(known("ab"), near("Ab", 0), near("A", 0)), [[-22], [-22]])


class Near(unittest.TestCase):
    def test_by_letters_a_beginning_first(self):
        texts = ["bat", "cab", "ca", "at", "cat", "cats", "act", "ct", "cart", "scat", "catt", "cata", "dog", "catss",
                 "acat", "cut", "ccat", "zcat"]
        expected = ["acat", "act", "at", "bat", "ca", "cab", "cart", "cata", "cats", "catt", "ccat", "ct", "cut", "scat",
                    "zcat"]
        self.assertEqual(all_near(known(*texts), "cat"), expected)
        self.assertEqual(all_near(known(*reversed(texts)), "cat"), expected)
        self.assertEqual(all_near(known(*sorted(texts)), "cat"), expected)

    def test_the_order_is_not_by_length(self):
        self.assertEqual(all_near(known("b", "ab", "aab", "aaab", "abb", "ba", "bb"), "ab"), ["aab", "abb", "b", "ba", "bb"])

    def test_k(self):
        before = known("ca", "cats", "at", "cat")
        told = last_replies(before, *[near("cat", k) for k in (2, 3, 4, 4294967295, 0, 1)])
        self.assertEqual(told, [one("cats"), [0], [0], [0], one("at"), one("ca")])

    def test_each_once_though_several_words_and_slots_have_it(self):
        before = [rule(kind, slot, "// //s") for kind in (0, 1) for slot in (0, 3)]
        before += [word(0, "cat"), word(1, "cat"), odd(0, 7, "cats"), odd(0, 8, "cat")]
        self.assertEqual(all_near(before, "cat"), ["cats"])
        self.assertEqual(all_near(before, "cats"), ["cat"])

    def test_each_once_though_several_steps_give_it(self):
        self.assertEqual(all_near(known("aaa", "aaaaa", "aaba"), "aaaa"), ["aaa", "aaaaa", "aaba"])
        self.assertEqual(all_near(known("aab", "abb", "aaabb"), "aabb"), ["aaabb", "aab", "abb"])

    def test_forms_made_and_forms_said(self):
        before = [rule(0, 0, "// //s"), rule(0, 1, "//s //"), word(0, "cat"), word(0, "ca"), odd(0, 9, "act"), word(1, "at")]
        self.assertEqual(all_near(before, "cat"), ["act", "cas", "cats", "scat"])

    def test_a_word_is_not_known_unless_it_is_a_form(self):
        self.assertEqual(all_near([word(0, "cat")], "cut"), [])
        self.assertEqual(all_near([word(0, "cat"), rule(0, 4, "// //")], "cut"), ["cat"])

    def test_what_was_said_hides_what_was_made(self):
        before = [rule(0, 0, "// //s"), word(0, "cat")]
        self.assertEqual(all_near(before, "cat"), ["cats"])
        self.assertEqual(all_near(before + [odd(0, 0, "kits")], "cat"), [])
        self.assertEqual(all_near(before + [odd(0, 0, "")], "cat"), [])
        self.assertEqual(all_near(before + [odd(0, 0, "")], "s"), [])
        self.assertEqual(all_near(before + [odd(0, 0, "cab")], "cat"), ["cab"])

    def test_it_stays_known_while_another_has_it(self):
        before = [rule(0, 0, "// //s"), rule(0, 1, "// //s"), word(0, "cat"), odd(0, 0, "")]
        self.assertEqual(all_near(before, "cat"), ["cats"])
        self.assertEqual(all_near(before + [odd(0, 1, "x")], "cat"), [])
        self.assertEqual(all_near(before + [odd(0, 1, "x"), odd(0, 2, "cats")], "cat"), ["cats"])

    def test_no_form_is_not_a_form_of_no_letters(self):
        self.assertEqual(all_near([word(0, "a"), odd(0, 0, "")], "a"), [])
        self.assertEqual(all_near([word(0, "a"), rule(0, 0, "// /a/")], "a"), [])

    def test_as_calls_come(self):
        told = replies(word(0, "cat"), near("cat", 0), rule(0, 2, "// //s"), near("cat", 0), odd(0, 2, "at"),
                       near("cat", 0), word(0, "ca"), near("cat", 1), odd(0, 3, "bat"), near("cat", 1))
        self.assertEqual(told[1::2], [[0], one("cats"), one("at"), one("cas"), one("bat")])

    def test_begin_again(self):
        told = last_replies(known("cats", "at"), near("cat", 1), BEGIN, near("cat", 0), word(0, "cat"), near("cat", 0),
                            odd(0, 0, "cab"), near("cat", 0), near("cat", 1))
        self.assertEqual(told, [one("cats"), [0], [0], [0], [0], [0], one("cab"), [0]])


class JustWhatIsKnownOneStepOff(unittest.TestCase):
    def one_step(self, one_row, other):
        """By what is the same at both ends, without making any step."""
        if len(one_row) > len(other):
            one_row, other = other, one_row
        front = 0
        while front < len(one_row) and one_row[front] == other[front]:
            front += 1
        first, second = one_row[front:], other[front:]
        if len(one_row) < len(other):
            return len(one_row) + 1 == len(other) and first == second[1:]
        if not first:
            return False
        return first[1:] == second[1:] or first[:2] == second[1::-1] and len(first) > 1 and first[2:] == second[2:]

    def test_all_short_rows(self):
        rows = ["".join(letters) for size in range(1, 5) for letters in itertools.product("abc", repeat=size)]
        self.assertEqual(len(rows), 120)
        for texts in (rows, rows[::2], rows[1::3]):
            before = known(*texts)
            for text in rows:
                expected = sorted(other for other in texts if self.one_step(text, other))
                self.assertEqual(all_near(before, text, 40), expected)


if __name__ == "__main__":
    unittest.main()
