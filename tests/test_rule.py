"""Promise 2: rule."""

import itertools
import random
import re
import unittest

from bentwords.rules import read_rule
from tests.calls import ask, rule

ALPHABET = "abcdefghijklmnopqrstuvwxyz"
PLACE = r"(?:[a-z.]|\[\^?[a-z]+\])"
PART = PLACE + r"{0,16}/[a-z]{0,16}/[a-z]{0,16}"
RULE = re.compile(PART + " " + PART)


def is_rule(text):
    return RULE.fullmatch(text) is not None


class Refusals(unittest.TestCase):
    def test_numbers_count_from_0_over_all_classes_and_slots(self):
        told = ask(rule(0, 0, "// //s"), rule(63, 15, "// //s"), rule(0, 1, "// //"), rule(0, 0, "// //s"))
        self.assertEqual(told, [0, 1, 2, 3])

    def test_class(self):
        told = ask(rule(63, 0, "// //"), rule(64, 0, "// //"), rule(4294967295, 0, "// //"), rule(63, 0, "// //"))
        self.assertEqual(told, [0, -22, -22, 1])

    def test_slot(self):
        told = ask(rule(0, 15, "// //"), rule(0, 16, "// //"), rule(0, 4294967295, "// //"), rule(0, 15, "// //"))
        self.assertEqual(told, [0, -22, -22, 1])

    def test_bytes(self):
        of_96 = f"[{ALPHABET}][^{ALPHABET}]/abcdefghijklmnop/ab [{'a' * 14}]//"
        self.assertEqual(len(of_96), 96)
        of_97 = of_96 + "a"
        self.assertTrue(is_rule(of_96) and is_rule(of_97))
        told = ask(rule(0, 0, of_96), rule(0, 0, of_97), rule(0, 0, of_97 + "a"), rule(0, 0, of_96))
        self.assertEqual(told, [0, -22, -22, 1])

    def test_no_rule_of_96_and_97_bytes(self):
        told = ask(rule(0, 0, "a" * 96), rule(0, 0, "a" * 97), rule(0, 0, [255] * 120))
        self.assertEqual(told, [-71, -22, -22])

    def test_512_rules(self):
        told = ask(*[rule(number % 64, number % 16, "// //s") for number in range(514)])
        self.assertEqual(told, list(range(512)) + [-28, -28])

    def test_the_first_refusal_is_answered(self):
        told = ask(rule(64, 0, "x"), rule(0, 16, "x"), rule(0, 0, "x" * 97), rule(0, 0, "x"))
        self.assertEqual(told, [-22, -22, -22, -71])

    def test_the_first_refusal_is_answered_when_there_are_512(self):
        told = ask(*[rule(0, 0, "// //")] * 512, rule(64, 0, "// //"), rule(0, 16, "// //"),
                   rule(0, 0, "// //" + "a" * 92), rule(0, 0, "x"), rule(0, 0, "// //"))
        self.assertEqual(told[512:], [-22, -22, -22, -71, -28])

    def test_what_is_refused_takes_no_number_and_no_room(self):
        refused = [rule(64, 0, "// //"), rule(0, 16, "// //"), rule(0, 0, "a" * 97), rule(0, 0, "/ /")]
        told = ask(rule(0, 0, "// //"), *refused * 20, *[rule(0, 0, "// //")] * 512)
        self.assertEqual(told, [0] + [-22, -22, -22, -71] * 20 + list(range(1, 512)) + [-28])


class WhatIsARule(unittest.TestCase):
    def assert_rules(self, *texts):
        for text in texts:
            with self.subTest(text=text):
                self.assertEqual(ask(rule(5, 5, text)), [0])

    def assert_no_rules(self, *texts):
        for text in texts:
            with self.subTest(text=text):
                self.assertEqual(ask(rule(5, 5, text)), [-71])

    def test_pieces_may_be_empty(self):
        self.assert_rules("// //", "a// //", "/a/ //", "//a //", "// a//", "// /a/", "// //a", "a/a/a a/a/a")

    def test_ordinary_rules(self):
        self.assert_rules("// //s", "// [^aeiou]y/y/ies", "//ge //t", "un/un/ //", "// [sxz]//es", "// c.c//ked")

    def test_what_a_pattern_holds_in_front_and_at_the_end(self):
        for pattern in ("a", "z", ".", "[a]", "[z]", "[abc]", "[aa]", "[^a]", "[^abc]", "[^aa]", "...", "a.[b][^c]",
                        "[a][b]", f"[{ALPHABET}]", f"[^{ALPHABET}]"):
            self.assert_rules(f"{pattern}// //", f"// {pattern}//")

    def test_what_no_pattern_holds_in_front_and_at_the_end(self):
        for pattern in ("[]", "[^]", "[", "]", "[a", "a]", "[^a", "[^", "^", "^a", "[a^]", "[^^a]", "[a^b]", "[.]",
                        "[^.]", "[[a]", "[a]]", "[a[b]]", "[a[b]", "[[]", "[]]", "[]a]", "[^]a]", "A", "[A]", "[^A]",
                        "[aB]", "[a-z]", "-", "*", "a[", "[a][", "[a][]", "[ ]", "[a b]", "[/]", "[a/b]", "0", "[0]"):
            self.assert_no_rules(f"{pattern}// //", f"// {pattern}//")

    def test_what_goes_and_comes_is_letters(self):
        for piece in (".", "[a]", "[^a]", "]", "^", "A", "aB", "a.", ".a", "0", "-", "\n"):
            self.assert_no_rules(f"/{piece}/ //", f"//{piece} //", f"// /{piece}/", f"// //{piece}")

    def test_slashes(self):
        self.assert_no_rules("/ //", "// /", "/ /", " //", "// ", "/// //", "// ///", "/ ///", "/// /", "//// ",
                             "////", "a b", "//a/ //", "// //a/")

    def test_blanks(self):
        self.assert_no_rules("", " ", "  ", "//", "////", "//  //", " // //", "// // ", "// // //", "/ / //",
                             "// / /", "a //// //", "//\t//", "//\n//", "//\x00//", "//\xa0//")

    def test_bytes_that_are_no_letters(self):
        for sign in range(256):
            may_stand = sign in b"abcdefghijklmnopqrstuvwxyz"
            with self.subTest(sign=sign):
                in_pattern = [sign] + list(b"// //")
                self.assertEqual(ask(rule(0, 0, in_pattern)), [0 if may_stand or sign == ord(".") else -71])
                for before, behind in ((b"[a", b"]// //"), (b"// [", b"a]//"), (b"// [^a", b"]//"), (b"/", b"/ //"),
                                       (b"//", b" //"), (b"// /", b"/"), (b"// //", b"")):
                    told = ask(rule(0, 0, list(before) + [sign] + list(behind)))
                    # A ^ is a letter's place nowhere, but right behind a [ it turns the brackets round.
                    expected = may_stand or (before == b"// [" and sign == ord("^"))
                    self.assertEqual(told, [0 if expected else -71])

    def test_patterns_of_16_and_17(self):
        for place in ("a", ".", "[a]"):
            self.assert_rules(f"{place * 16}// //", f"// {place * 16}//")
            self.assert_no_rules(f"{place * 17}// //", f"// {place * 17}//")
        self.assert_rules(f"{'[^a]' * 16}// //", f"// {'[^a]' * 16}//", f"{'a' * 16}// {'.' * 16}//")
        self.assert_rules(f"{'[^a]' * 16}// {'.' * 16}//")
        self.assert_no_rules(f"{'[^a]' * 17}// //", f"// {'[^a]' * 17}//", f"{'a' * 16}// {'.' * 17}//")

    def test_a_bracket_with_many_letters_is_one_place(self):
        self.assert_rules(f"[{'ab' * 20}]{'.' * 15}// //", f"// {'.' * 15}[^{'ab' * 20}]//")
        self.assert_no_rules(f"[{'ab' * 20}]{'.' * 16}// //", f"// {'.' * 16}[^{'ab' * 20}]//")

    def test_16_and_17_letters_go_or_come(self):
        for before, behind in (("/", "/ //"), ("//", " //"), ("// /", "/"), ("// //", "")):
            self.assert_rules(before + "q" * 16 + behind)
            self.assert_no_rules(before + "q" * 17 + behind)

    def test_16_letters_go_and_come_on_both_sides(self):
        letters = "abcdefghijklmnop"
        self.assert_rules(f"/{letters}/{letters} /{letters}/{letters}")
        self.assert_no_rules(f"/{letters}/{letters} /{letters}/{letters}q")

    def test_all_short_texts_in_each_piece(self):
        for length in range(5):
            for signs in itertools.product("az.[]^/ A", repeat=length):
                piece = "".join(signs)
                for text in (f"{piece}// //", f"/{piece}/ //", f"// {piece}//", f"// //{piece}", piece):
                    self.assertEqual(read_rule(list(text.encode())) is not None, is_rule(text), text)

    def test_changed_rules(self):
        chance = random.Random(2)
        counts = {True: 0, False: 0}
        for _ in range(20000):
            text = self.any_rule(chance)
            for _ in range(chance.randrange(3)):
                at = chance.randrange(len(text) + 1)
                text = text[:at] + chance.choice(["", *"ab.[]^/ A"]) + text[at + chance.randrange(2):]
            if len(text) <= 120:
                expected = -22 if len(text) > 96 else 0 if is_rule(text) else -71
                counts[expected == 0] += 1
                self.assertEqual(ask(rule(0, 0, text)), [expected], text)
        self.assertGreater(min(counts.values()), 2000)

    def any_rule(self, chance):
        def pattern():
            most = chance.choice([2, 4, 18])
            places = ["a", "b", ".", "[a]", "[xyz]", "[^b]", "[^xyz]"]
            return "".join(chance.choice(places) for _ in range(chance.randrange(most)))

        def letters():
            most = chance.choice([2, 4, 18])
            return "".join(chance.choice("abz") for _ in range(chance.randrange(most)))

        return f"{pattern()}/{letters()}/{letters()} {pattern()}/{letters()}/{letters()}"


class WhatIsKept(unittest.TestCase):
    def test_each_piece_stays_where_it_was_told(self):
        kept = read_rule(list(b"a/bc/de f/gh/ij"))
        self.assertEqual((kept.front.pattern, kept.end.pattern), (((97,),), ((102,),)))
        self.assertEqual((kept.front.goes, kept.end.goes), (tuple(b"bc"), tuple(b"gh")))
        self.assertEqual((kept.front.comes, kept.end.comes), (tuple(b"de"), tuple(b"ij")))

    def test_letters_that_fit_at_each_place(self):
        kept = read_rule(list(b"a.[xyz][^xyz]// //"))
        told = [bytes(sorted(set(place))).decode() for place in kept.front.pattern]
        self.assertEqual(told, ["a", ALPHABET, "xyz", ALPHABET[:23]])
        self.assertEqual(kept.end.pattern, ())

    def test_brackets_that_no_letter_fits(self):
        kept = read_rule(list(f"// [^{ALPHABET}]//".encode()))
        self.assertEqual(kept.end.pattern, ((),))


if __name__ == "__main__":
    unittest.main()
