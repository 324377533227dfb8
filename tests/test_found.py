"""Promise 5: found."""

import unittest

from tests.calls import BEGIN, form, found, last_replies, odd, replies, rule, spell, word


def all_found(before, text):
    """Found one after another from 0 on; behind the last there is none."""
    told = last_replies(before, *[found(text, k) for k in range(40)])
    places = [(answer[1], answer[2]) for answer in told if answer != [0]]
    if told != [[1, *place] for place in places] + [[0]] * (40 - len(places)):
        raise AssertionError(f"not all in a row: {told}")
    return places


class Refusals(unittest.TestCase):
    BEFORE = [word(0, "a"), odd(0, 0, "a"), odd(0, 1, "a" * 40), odd(0, 2, "")]

    def test_how_many_letters(self):
        told = last_replies(self.BEFORE, found("", 0), found("a", 0), found("a" * 40, 0), found("a" * 41, 0),
                            found("a" * 60, 0), found("a" * 39, 0))
        self.assertEqual(told, [[-22], [1, 0, 0], [1, 0, 1], [-22], [-22], [0]])

    def test_whatever_k_is(self):
        told = last_replies(self.BEFORE, found("", 5), found("a" * 41, 4294967295), found("A", 1), found("a", 1))
        self.assertEqual(told, [[-22], [-22], [-22], [0]])

    def test_a_to_z_alone_are_letters(self):
        for sign in range(256):
            expected = [0] if sign in b"bcdefghijklmnopqrstuvwxyz" else [1, 0, 0] if sign == 97 else [-22]
            with self.subTest(sign=sign):
                self.assertEqual(last_replies(self.BEFORE, found([sign], 0)), [expected])
                for signs in ([97, sign], [sign, 97], [97, sign, 97], [97] * 38 + [sign]):
                    self.assertEqual(last_replies(self.BEFORE, found(signs, 0)), [min(expected, [0])])

    def test_nothing_is_there(self):
        self.assertEqual(replies(found("a", 0), found("", 0), found("a", 4294967295)), [[0], [-22], [0]])


class Found(unittest.TestCase):
    BEFORE = [rule(0, 3, "// //s"), rule(0, 1, "// //s"), rule(1, 3, "// //"), rule(0, 5, "d// /dog/cats"),
              word(0, "cat"), word(1, "cats"), word(0, "dog"), word(2, "cats")]

    def test_word_by_word_slot_by_slot(self):
        self.assertEqual(all_found(self.BEFORE, "cats"), [(0, 1), (0, 3), (1, 3), (2, 5)])
        self.assertEqual(all_found(self.BEFORE, "dogs"), [(2, 1), (2, 3)])
        self.assertEqual(all_found(self.BEFORE, "cat"), [])

    def test_k(self):
        told = last_replies(self.BEFORE, *[found("cats", k) for k in (3, 4, 5, 4294967295, 0, 2, 1)])
        self.assertEqual(told, [[1, 2, 5], [0], [0], [0], [1, 0, 1], [1, 1, 3], [1, 0, 3]])

    def test_the_order_of_words_above_9_and_slots_above_9(self):
        words = [word(0, spell(number)) for number in range(130)]
        places = [(number, slot) for number in (2, 3, 10, 12, 100, 129) for slot in (0, 2, 9, 10, 15)]
        said = [odd(number, slot, "same") for number, slot in sorted(places, key=lambda place: (place[1], -place[0]))]
        self.assertEqual(all_found(words + said, "same"), places)

    def test_the_order_when_rules_come_behind_words(self):
        words = [word(kind, "cat") for kind in (5, 3, 4)]
        rules = [rule(kind, slot, "// //s") for slot in (15, 0, 7) for kind in (3, 4, 5)]
        expected = [(number, slot) for number in range(3) for slot in (0, 7, 15)]
        self.assertEqual(all_found(words + rules, "cats"), expected)
        self.assertEqual(all_found(rules + words, "cats"), expected)

    def test_forms_said_and_forms_made_alike(self):
        said = [odd(3, 0, "cats"), odd(2, 15, "cats"), odd(0, 2, "dogs")]
        self.assertEqual(all_found(self.BEFORE + said, "cats"), [(0, 1), (0, 3), (1, 3), (2, 5), (2, 15), (3, 0)])
        self.assertEqual(all_found(self.BEFORE + said, "dogs"), [(0, 2), (2, 1), (2, 3)])

    def test_what_was_said_hides_what_was_made(self):
        said = [odd(0, 3, "kits"), odd(2, 5, "")]
        self.assertEqual(all_found(self.BEFORE + said, "cats"), [(0, 1), (1, 3)])
        self.assertEqual(all_found(self.BEFORE + said, "kits"), [(0, 3)])
        words = [word(0, "cat"), odd(0, 1, "kits"), odd(0, 3, "")]
        self.assertEqual(all_found(words + self.BEFORE[:2], "cats"), [])
        self.assertEqual(all_found(words + self.BEFORE[:2], "kits"), [(0, 1)])

    def test_what_was_made_is_found_once_if_it_is_said_too(self):
        self.assertEqual(all_found(self.BEFORE + [odd(0, 3, "cats")], "cats"), [(0, 1), (0, 3), (1, 3), (2, 5)])

    def test_what_is_refused_is_not_found(self):
        refused = [odd(0, 3, "cats"), odd(0, 3, "kits"), odd(0, 16, "kits"), odd(9, 0, "kits"), word(0, "cat"),
                   word(64, "kit"), rule(64, 3, "// //"), rule(0, 3, "//")]
        before = self.BEFORE + [odd(0, 3, "cats")] + refused
        self.assertEqual(all_found(before, "cats"), [(0, 1), (0, 3), (1, 3), (2, 5)])
        self.assertEqual(all_found(before, "kits"), [])

    def test_a_word_is_not_found_unless_it_is_a_form(self):
        self.assertEqual(all_found([word(0, "cat")], "cat"), [])
        self.assertEqual(all_found([word(0, "cat"), rule(0, 7, "// //")], "cat"), [(0, 7)])
        self.assertEqual(all_found([word(0, "cat"), rule(1, 7, "// //")], "cat"), [])

    def test_what_a_later_rule_would_make_is_not_found(self):
        before = [word(0, "cat"), rule(0, 0, "// //s"), rule(0, 0, "// //t")]
        self.assertEqual((all_found(before, "cats"), all_found(before, "catt")), ([(0, 0)], []))

    def test_as_calls_come(self):
        told = replies(word(0, "cat"), found("cats", 0), rule(0, 2, "// //s"), found("cats", 0), odd(0, 2, "kits"),
                       found("cats", 0), odd(0, 9, "cats"), found("cats", 0), word(0, "ca"), found("cas", 0))
        self.assertEqual(told[1::2], [[0], [1, 0, 2], [0], [1, 0, 9], [1, 1, 2]])

    def test_begin_again(self):
        told = last_replies(self.BEFORE, odd(3, 0, "cats"), found("cats", 4), BEGIN, found("cats", 0), word(0, "cat"),
                            found("cats", 0), rule(0, 9, "// //s"), found("cats", 0), found("cats", 1))
        self.assertEqual(told[1:], [[1, 3, 0], [0], [0], [0], [0], [0], [1, 0, 9], [0]])


class JustWhereItIsMade(unittest.TestCase):
    def test_each_word_and_slot_and_no_other(self):
        rules = [rule(kind, slot, text) for kind in range(2) for slot in range(4)
                 for text in ("a// /a/", "// /b/a", "/b/ //b", "// //")[kind + slot % 3:]]
        words = [word(kind, text) for text in ("a", "b", "ab", "ba", "aab", "bba") for kind in (1, 0)]
        said = [odd(0, 0, "ab"), odd(3, 2, ""), odd(5, 15, "b"), odd(7, 1, "ab"), odd(2, 2, "bb")]
        before = rules + words + said
        places = [(number, slot) for number in range(12) for slot in range(16)]
        forms = dict(zip(places, last_replies(before, *[form(*place) for place in places])))
        texts = {bytes(answer[1:]).decode() for answer in forms.values() if answer != [0]}
        self.assertGreater(len(texts), 6)
        for text in sorted(texts | {"c", "abab", "bbbb"}):
            expected = [place for place in places if forms[place] == [1, *text.encode()]]
            self.assertEqual(all_found(before, text), expected, text)


if __name__ == "__main__":
    unittest.main()
