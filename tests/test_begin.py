"""Promise 1: begin."""

import unittest

from bentwords.forms import answers
from tests.calls import BEGIN, ask, line, odd, rule, spell, word


class Begin(unittest.TestCase):
    def test_answers_0(self):
        self.assertEqual(answers([0]), [1, 0])

    def test_answers_0_again(self):
        self.assertEqual(answers([0, 0, 0]), [1, 0, 1, 0, 1, 0])

    def test_words_are_gone(self):
        told = ask(word(1, "cat"), word(1, "dog"), word(1, "cat"), BEGIN, word(1, "cat"), word(1, "cat"))
        self.assertEqual(told, [0, 1, -17, 0, 0, -17])

    def test_rules_are_gone(self):
        told = ask(rule(0, 0, "// //s"), rule(0, 0, "// //s"), BEGIN, rule(0, 0, "// //s"))
        self.assertEqual(told, [0, 1, 0, 0])

    def test_nothing_is_said(self):
        told = ask(word(1, "cat"), odd(0, 3, "cats"), odd(0, 3, "cats"), BEGIN,
                   odd(0, 3, "cats"), word(1, "cat"), odd(0, 3, "cats"), odd(0, 3, "cats"))
        self.assertEqual(told, [0, 0, -17, 0, -2, 0, 0, -17])

    def test_there_is_room_for_rules_again(self):
        told = ask(*[rule(0, 0, "// //")] * 513, BEGIN, rule(0, 0, "// //"))
        self.assertEqual(told[511:], [511, -28, 0, 0])

    def test_there_is_room_for_words_again(self):
        told = ask(*[word(0, spell(number)) for number in range(513)], BEGIN, word(0, "a"))
        self.assertEqual(told[511:], [511, -28, 0, 0])

    def test_there_is_room_to_say_again(self):
        words = [word(0, spell(number)) for number in range(17)]
        said = [odd(number // 16, number % 16, "a") for number in range(257)]
        told = ask(*words, *said, BEGIN, *words, *said)
        once = list(range(17)) + [0] * 256 + [-28]
        self.assertEqual(told, once + [0] + once)


class Interface(unittest.TestCase):
    CALLS = line(BEGIN, rule(3, 2, "[ab].[^c]/a/b /c/d"), rule(64, 0, "// //"), rule(0, 0, "x"), word(7, "cat"),
                 word(7, "cat"), word(7, ""), odd(0, 0, ""), odd(0, 0, "cats"), odd(1, 0, "cats"),
                 BEGIN, odd(0, 0, "cats"), word(7, "cat"), rule(0, 0, "// //"))
    TOLD = [1, 0, 1, 0, 1, -22, 1, -71, 1, 0, 1, -17, 1, -22, 1, 0, 1, -17, 1, -2, 1, 0, 1, -2, 1, 0, 1, 0]

    def test_each_answer_has_its_count_before_it(self):
        self.assertEqual(answers(list(self.CALLS)), self.TOLD)

    def test_whole_numbers_in_a_list(self):
        told = answers(list(self.CALLS))
        self.assertIs(type(told), list)
        self.assertEqual({type(number) for number in told}, {int})

    def test_what_is_handed_in_stays_as_it_was(self):
        calls = list(self.CALLS)
        answers(calls)
        self.assertEqual(calls, self.CALLS)

    def test_nothing_is_kept_from_one_time_to_the_next(self):
        calls = list(self.CALLS)
        self.assertEqual(answers(calls), answers(calls))
        self.assertEqual(ask(word(7, "cat"), rule(0, 0, "// //")), [0, 0])
        self.assertEqual(ask(odd(0, 0, "cats")), [-2])
        self.assertEqual(ask(word(7, "cat"), rule(0, 0, "// //")), [0, 0])

    def test_what_is_given_back_is_a_new_list_each_time(self):
        first = answers([0])
        first.append(5)
        self.assertEqual(answers([0]), [1, 0])

    def test_the_longest_lists(self):
        told = ask(*[word(0, "a")] * 1199)
        self.assertEqual(told, [0] + [-17] * 1198)
        told = ask(*[rule(0, 0, [255] * 120)] * 241)
        self.assertEqual(told, [-22] * 241)

    def test_great_numbers(self):
        most = 4294967295
        told = ask(rule(most, most, "// //"), word(most, "a"), odd(most, 0, "a"), odd(0, most, "a"), word(0, "a"),
                   odd(most, 15, "a"))
        self.assertEqual(told, [-22, -22, -2, -22, 0, -2])


if __name__ == "__main__":
    unittest.main()
