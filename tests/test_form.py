"""Promise 4: form; when a rule fits and what it makes, and what is said of a word."""

import unittest

from tests.calls import BEGIN, form, last_replies, odd, one, replies, rule, spell, word

ALPHABET = "abcdefghijklmnopqrstuvwxyz"


class Form(unittest.TestCase):
    def test_a_form_is_told_behind_1(self):
        told = replies(rule(0, 0, "// //s"), word(0, "cat"), form(0, 0))
        self.assertEqual(told, [[0], [0], [1, 99, 97, 116, 115]])

    def test_no_form(self):
        before = [rule(0, 3, "// //s"), rule(1, 2, "// //s"), word(0, "cat"), word(2, "cat")]
        self.assertEqual(last_replies(before, form(0, 2), form(0, 4), form(1, 3), form(0, 15)), [[0]] * 4)

    def test_slot(self):
        before = [rule(0, 0, "// //s"), rule(0, 15, "// //t"), word(0, "cat")]
        told = last_replies(before, form(0, 15), form(0, 16), form(0, 4294967295), form(0, 0))
        self.assertEqual(told, [one("catt"), [-22], [-22], one("cats")])

    def test_no_such_word(self):
        told = replies(form(0, 0), rule(0, 0, "// //s"), form(0, 0), word(0, "cat"), form(1, 0), form(4294967295, 0),
                       word(1, "cat"), form(1, 0), form(2, 0))
        self.assertEqual(told, [[-2], [0], [-2], [0], [-2], [-2], [1], [0], [-2]])

    def test_the_first_refusal_is_answered(self):
        told = replies(form(0, 16), form(0, 15), word(0, "a"), form(1, 16), form(4294967295, 4294967295), form(1, 15))
        self.assertEqual(told, [[-22], [-2], [0], [-22], [-22], [-2]])

    def test_asking_changes_nothing(self):
        before = [rule(0, 0, "// //s"), word(0, "cat")]
        told = last_replies(before, *[form(0, 0), form(0, 1), form(1, 0), form(0, 16)] * 3, word(0, "dog"))
        self.assertEqual(told, [one("cats"), [0], [-2], [-22]] * 3 + [[1]])

    def test_begin_again(self):
        told = replies(rule(0, 0, "// //s"), word(0, "cat"), odd(0, 1, "kit"), form(0, 0), form(0, 1), BEGIN,
                       form(0, 0), word(0, "cat"), form(0, 0), form(0, 1), rule(0, 0, "// //z"), form(0, 0))
        self.assertEqual(told[3:], [one("cats"), one("kit"), [0], [-2], [0], [0], [0], [0], one("catz")])

    def test_the_last_word_and_the_last_rule(self):
        words = [word(7, spell(number)) for number in range(512)]
        rules = [rule(7, 5, "z// //x")] * 511 + [rule(7, 5, "// //y")]
        told = last_replies(words + rules, form(511, 5), form(512, 5), form(25, 5), form(0, 5))
        self.assertEqual(told, [one(spell(511) + "y"), [-2], one("zaaax"), one("aaaay")])


class WhatARuleMakes(unittest.TestCase):
    def made(self, text, letters):
        """The same, whether the rule or the word comes first; None where there is no form."""
        first = last_replies([rule(9, 4, text), word(9, letters)], form(0, 4))
        second = last_replies([word(9, letters), rule(9, 4, text)], form(0, 4))
        self.assertEqual(first, second)
        return bytes(first[0][1:]).decode() if first[0][0] == 1 else None

    def assert_made(self, text, **expected):
        for letters, made in expected.items():
            with self.subTest(rule=text, word=letters):
                self.assertEqual(self.made(text, letters), made)

    def test_nothing_asked_and_nothing_done(self):
        self.assert_made("// //", a="a", cat="cat")
        self.assertEqual(self.made("// //", "a" * 24), "a" * 24)

    def test_letters_come_in_front_and_at_the_end(self):
        self.assert_made("// //en", ox="oxen")
        self.assert_made("//ge //", gangen="gegangen")
        self.assert_made("//ge //t", mach="gemacht")

    def test_letters_go_and_others_come_in_their_place(self):
        self.assert_made("// /y/ies", fly="flies", y="ies", day="daies", fl=None, yf=None)
        self.assert_made("/un/re //", unmake="remake", un="re", u=None, n=None, sun=None, make=None)
        self.assert_made("/ab/x /cd/y", abcd="xy", abecd="xey", abc=None, bcd=None, cdab=None, ababcdcd="xabcdy")

    def test_more_letters_go_than_the_word_has(self):
        self.assert_made("/aaa/b //", aa=None, aaa="b", aaaa="ba")
        self.assert_made("// /aaa/b", aa=None, aaa="b", aaaa="ab")

    def test_a_letter_that_would_go_both_in_front_and_at_the_end(self):
        self.assert_made("/a/x /a/y", a=None, aa="xy", aaa="xay")
        self.assert_made("/aba/x /aba/y", aba=None, ababa=None, abaaba="xy", abaab=None, abacaba="xcy")
        self.assert_made("/ab/ /bc/z", abc=None, abbc="z")

    def test_a_word_that_goes_away_whole(self):
        self.assert_made("// /cat/", cat=None, acat="a")
        self.assert_made("/cat/ //", cat=None, cata="a")
        self.assert_made("/c/ /at/", cat=None, coat="o")
        self.assert_made("/c/ /at/d", cat="d")
        self.assert_made("/c/d /at/", cat="d")

    def test_40_and_41_letters_come_out(self):
        sixteen = "b" * 16
        for before, behind in ((sixteen, ""), ("", sixteen), (sixteen[:8], sixteen[8:])):
            text = f"//{before} //{behind}"
            self.assertEqual(self.made(text, "a" * 24), before + "a" * 24 + behind)
            self.assertIsNone(self.made(f"//{before}c //{behind}" if len(before) < 16 else f"//{before} //c", "a" * 24))
        self.assertEqual(self.made(f"//{sixteen} //{sixteen}", "a" * 8), sixteen + "a" * 8 + sixteen)
        self.assertIsNone(self.made(f"//{sixteen} //{sixteen}", "a" * 9))
        self.assertIsNone(self.made(f"//{sixteen} //{sixteen}", "a" * 24))
        self.assertEqual(self.made(f"/a/{sixteen} //{sixteen}", "a" * 9), sixteen + "a" * 8 + sixteen)
        self.assertIsNone(self.made(f"/a/{sixteen} //{sixteen}", "a" * 10))

    def test_16_letters_go_on_both_sides(self):
        text = f"/{'a' * 16}/x /{'a' * 8}/y"
        self.assertEqual(self.made(text, "a" * 24), "xy")
        self.assertIsNone(self.made(text, "a" * 23))
        self.assertIsNone(self.made(f"/{'a' * 16}/x /{'a' * 9}/y", "a" * 24))

    def test_a_letter_in_a_pattern(self):
        self.assert_made("c// //s", cat="cats", c="cs", at=None, acc=None)
        self.assert_made("// t//s", cat="cats", t="ts", ta=None, tta=None)
        self.assert_made("ca// at//s", cat="cats", caat="caats", act=None, ca=None, at=None, cta=None)

    def test_any_letter_in_a_pattern(self):
        self.assert_made(".// //s", a="as", ab="abs")
        self.assert_made("..// //s", a=None, ab="abs", abc="abcs")
        self.assert_made("// ...//s", a=None, ab=None, abc="abcs", abcd="abcds")
        self.assert_made("a.c// //s", abc="abcs", azc="azcs", ac=None, acb=None, zbc=None)
        for letter in ALPHABET:
            self.assertEqual(self.made(".// .//s", letter), letter + "s")

    def test_one_of_some_letters(self):
        self.assert_made("[sz]// //es", sat="sates", zat="zates", tas=None, at=None)
        self.assert_made("// [sz]//es", bus="buses", quiz="quizes", cat=None, st=None)
        for letter in ALPHABET:
            self.assertEqual(self.made("[bcdz]// //x", letter), letter + "x" if letter in "bcdz" else None)
            self.assertEqual(self.made("// [zbb]//x", letter), letter + "x" if letter in "bz" else None)

    def test_none_of_some_letters(self):
        self.assert_made("[^sz]// //es", sat=None, zat=None, tas="tases")
        self.assert_made("// [^aeiou]y/y/ies", fly="flies", day=None, y=None, by="bies", yb=None)
        for letter in ALPHABET:
            self.assertEqual(self.made("[^bcdz]// //x", letter), None if letter in "bcdz" else letter + "x")
            self.assertEqual(self.made("// [^zbb]//x", letter), None if letter in "bz" else letter + "x")

    def test_brackets_that_no_letter_fits(self):
        for letter in ALPHABET:
            self.assertIsNone(self.made(f"[^{ALPHABET}]// //x", letter))
            self.assertIsNone(self.made(f"// [^{ALPHABET}]//x", letter))
            self.assertEqual(self.made(f"[{ALPHABET}]// //x", letter), letter + "x")

    def test_patterns_are_read_in_the_words_order(self):
        self.assert_made("abc// //x", abcd="abcdx", cbad=None)
        self.assert_made("// abc//x", dabc="dabcx", dcba=None)
        self.assert_made("a[bc].[^d]// //x", abde="abdex", acda="acdax", abdd=None, aade=None, abd=None, eabde=None)
        self.assert_made("// a[bc].[^d]//x", abde="abdex", zacda="zacdax", abdd=None, aade=None, bde=None, abdea=None)

    def test_patterns_longer_than_the_word(self):
        self.assert_made("....// //x", abc=None, abcd="abcdx")
        self.assert_made("// ....//x", abc=None, abcd="abcdx")
        self.assert_made("abcd// //x", abc=None)
        self.assert_made("// zabc//x", abc=None)
        # The word's last letters must not be taken for those in front of its first.
        self.assert_made("// caab//x", ab=None, aab=None)
        self.assert_made("// abab//x", ab=None)
        self.assert_made("// bab//x", ab=None, bab="babx")

    def test_patterns_of_16(self):
        for text in (f"{'a' * 16}// //x", f"// {'a' * 16}//x", f"{'a' * 16}// {'a' * 16}//x"):
            self.assertEqual(self.made(text, "a" * 16), "a" * 16 + "x")
            self.assertEqual(self.made(text, "a" * 24), "a" * 24 + "x")
            self.assertIsNone(self.made(text, "a" * 15))
            self.assertIsNone(self.made(text, "b" + "a" * 15))
            self.assertIsNone(self.made(text, "a" * 15 + "b"))

    def test_both_patterns_reach_over_the_whole_word(self):
        self.assert_made("abc// abc//x", abc="abcx", abcabc="abcabcx", abcab=None, bcabc=None)
        self.assert_made("a..// [ab].c//x", abc="abcx", bbc=None, cbc=None, abb=None)

    def test_patterns_look_at_the_letters_that_go_too(self):
        self.assert_made("ab/a/x bc/bc/y", abbc="xby", aabbc=None, abbbc="xbby")
        self.assert_made("ab/a/x bc/c/y", abc="xby", ac=None)
        self.assert_made("[^a]/a/x //", a=None, ab=None, ba=None)
        self.assert_made("// [^a]/a/x", a=None, ab=None, ba=None)

    def test_what_goes_in_front_is_not_what_goes_at_the_end(self):
        self.assert_made("/a/ /b/", azb="z", bza=None, aza=None, bzb=None)
        self.assert_made("a// b//x", azb="azbx", bza=None)


class WhichRule(unittest.TestCase):
    def assert_form(self, before, letters, number=0, slot=0):
        expected = [0] if letters is None else one(letters)
        self.assertEqual(last_replies(before, form(number, slot)), [expected])

    def assert_form_of(self, rules, letters, made):
        """In whatever place among the rules the word comes."""
        for at in range(len(rules) + 1):
            self.assert_form([*rules[:at], word(0, letters), *rules[at:]], made)

    def test_the_first_that_fits(self):
        self.assert_form_of([rule(0, 0, "// //s"), rule(0, 0, "// //t")], "cat", "cats")
        self.assert_form_of([rule(0, 0, "d// //s"), rule(0, 0, "// //t"), rule(0, 0, "// //u")], "cat", "catt")
        self.assert_form_of([rule(0, 0, "// /x/s"), rule(0, 0, "// z//t"), rule(0, 0, "c// t//u")], "cat", "catu")
        self.assert_form_of([rule(0, 0, "d// //s"), rule(0, 0, "// /x/t")], "cat", None)

    def test_one_that_makes_no_letter_or_more_than_40_does_not_fit(self):
        self.assert_form_of([rule(0, 0, "// /cat/"), rule(0, 0, "// //u")], "cat", "catu")
        self.assert_form_of([rule(0, 0, "/c/ /at/"), rule(0, 0, "/ca/ //")], "cat", "t")
        long = f"//{'b' * 16} //{'b' * 16}"
        self.assert_form_of([rule(0, 0, long), rule(0, 0, "// //u")], "a" * 9, "a" * 9 + "u")
        self.assert_form_of([rule(0, 0, long), rule(0, 0, "// //u")], "a" * 8, "b" * 16 + "a" * 8 + "b" * 16)

    def test_one_whose_letters_would_overlap_does_not_fit(self):
        self.assert_form_of([rule(0, 0, "/ca/x /at/y"), rule(0, 0, "// //u")], "cat", "catu")

    def test_of_the_words_class(self):
        rules = [rule(1, 0, "// //s"), rule(0, 0, "// //t"), rule(63, 0, "// //u")]
        self.assert_form_of(rules, "cat", "catt")
        words = [word(63, "cat"), word(1, "cat"), word(2, "cat")]
        for before in (rules + words, words + rules):
            self.assertEqual(last_replies(before, form(0, 0), form(1, 0), form(2, 0)), [one("catu"), one("cats"), [0]])

    def test_of_the_slot(self):
        rules = [rule(0, 1, "// //s"), rule(0, 0, "// //t"), rule(0, 15, "// //u")]
        self.assert_form_of(rules, "cat", "catt")
        for before in (rules + [word(0, "cat")], [word(0, "cat")] + rules):
            told = last_replies(before, *[form(0, slot) for slot in range(16)])
            self.assertEqual(told, [one("catt"), one("cats")] + [[0]] * 13 + [one("catu")])

    def test_a_later_rule_does_not_change_a_form(self):
        told = replies(word(0, "cat"), form(0, 0), rule(0, 0, "d// //s"), form(0, 0), rule(0, 0, "// t//t"), form(0, 0),
                       rule(0, 0, "// //u"), form(0, 0), rule(0, 0, "cat// cat//v"), form(0, 0))
        self.assertEqual(told[1::2], [[0], [0], one("catt"), one("catt"), one("catt")])

    def test_a_refused_rule_makes_nothing(self):
        refused = [rule(64, 0, "// //x"), rule(0, 16, "// //x"), rule(0, 0, "// /x"), rule(0, 0, "// //" + "x" * 92)]
        self.assert_form([word(0, "cat"), *refused], None)
        self.assert_form([*refused, word(0, "cat")], None)
        full = [rule(0, 1, "// //")] * 512 + [rule(0, 0, "// //x")]
        self.assert_form([word(0, "cat"), *full], None)
        self.assert_form([*full, word(0, "cat")], None)

    def test_a_rule_is_not_used_on_what_another_made(self):
        self.assert_form_of([rule(0, 0, "// /t/s"), rule(0, 0, "// /s/z")], "cat", "cas")


class WhatIsSaid(unittest.TestCase):
    RULES = [rule(0, 0, "// //s"), rule(0, 1, "// //t"), rule(1, 0, "// //u")]
    WORDS = [word(0, "ox"), word(0, "cow"), word(1, "ox")]
    ALL = [form(number, slot) for number in range(3) for slot in range(2)]

    def test_it_goes_before_the_rules_of_one_word_in_one_slot_alone(self):
        plain = [one("oxs"), one("oxt"), one("cows"), one("cowt"), one("oxu"), [0]]
        self.assertEqual(last_replies(self.RULES + self.WORDS, *self.ALL), plain)
        for at in range(6):
            for said in ("oxen", "a" * 40, "a", ""):
                call = odd(at // 2, at % 2, said)
                expected = list(plain)
                expected[at] = one(said) if said else [0]
                for before in (self.RULES + self.WORDS + [call], self.WORDS + [call] + self.RULES,
                               self.WORDS + self.RULES[:1] + [call] + self.RULES[1:]):
                    self.assertEqual(last_replies(before, *self.ALL), expected)

    def test_none_stays_said_whatever_rule_comes(self):
        told = replies(word(0, "ox"), odd(0, 0, ""), form(0, 0), rule(0, 0, "// //s"), form(0, 0),
                       rule(0, 0, "// //t"), form(0, 0))
        self.assertEqual(told[2::2], [[0], [0], [0]])

    def test_it_needs_no_rule(self):
        self.assertEqual(last_replies([word(0, "ox"), odd(0, 15, "oxen")], form(0, 15), form(0, 14)), [one("oxen"), [0]])

    def test_what_is_refused_is_not_said(self):
        refused = [odd(0, 16, "a"), odd(0, 1, "A"), odd(0, 1, "a" * 41), odd(3, 1, "a")]
        told = last_replies(self.RULES + self.WORDS + refused, *self.ALL)
        self.assertEqual(told, last_replies(self.RULES + self.WORDS, *self.ALL))
        told = replies(word(0, "ox"), odd(0, 0, "oxen"), odd(0, 0, "oxes"), odd(0, 0, ""), form(0, 0))
        self.assertEqual(told[2:], [[-17], [-17], one("oxen")])
        told = replies(word(0, "ox"), odd(0, 0, ""), odd(0, 0, "oxes"), form(0, 0))
        self.assertEqual(told[2:], [[-17], [0]])

    def test_what_has_no_room_is_not_said(self):
        words = [word(0, spell(number)) for number in range(17)]
        said = [odd(number // 16, number % 16, spell(number)) for number in range(256)]
        before = [rule(0, 0, "// //s")] + words + said + [odd(16, 0, "a"), odd(16, 1, "a")]
        told = last_replies(before, form(16, 0), form(16, 1), *[form(at // 16, at % 16) for at in range(256)])
        self.assertEqual(told, [one(spell(16) + "s"), [0]] + [one(spell(number)) for number in range(256)])


class NoFormIsLost(unittest.TestCase):
    def test_a_rule_or_a_word_more(self):
        slots = range(3)
        calls = [word(0, "fly"), rule(0, 0, "// [^a]y/y/ies"), word(0, "cat"), rule(0, 1, "// [^y]//ed"), odd(0, 1, "flew"),
                 word(1, "fly"), rule(0, 0, "// //s"), rule(1, 0, "// //z"), word(0, "day"), odd(2, 1, ""),
                 rule(0, 1, "// //d"), word(0, "y"), rule(0, 2, "// /fly/"), rule(0, 2, "//un //"), rule(1, 1, "// //")]
        words = 0
        held = {}
        for at, call in enumerate(calls):
            words += call[0] == 2
            places = [(number, slot) for number in range(words) for slot in slots]
            told = dict(zip(places, last_replies(calls[:at + 1], *[form(*place) for place in places])))
            if call[0] == 3:
                held[tuple(call[1:3])] = told[tuple(call[1:3])]
            for place, before in held.items():
                self.assertEqual(told[place], before, (at, place))
            held = {place: answer for place, answer in told.items() if answer != [0]}
        self.assertEqual(held, {
            (0, 0): one("flies"), (0, 1): one("flew"), (0, 2): one("unfly"), (1, 0): one("cats"), (1, 1): one("cated"),
            (1, 2): one("uncat"), (2, 0): one("flyz"), (3, 0): one("days"), (3, 1): one("dayd"), (3, 2): one("unday"),
            (4, 0): one("ys"), (4, 1): one("yd"), (4, 2): one("uny")})


if __name__ == "__main__":
    unittest.main()
