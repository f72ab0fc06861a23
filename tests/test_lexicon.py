import random
import re
import unittest

from surelyread.errors import BadWords
from surelyread.lexicon import accepts, lexicon, run


def machine_of(words):
    """The machine, told as its definition does."""
    states = {}
    for word in words:
        for length in range(1, len(word) + 1):
            if word[:length] not in states:
                states[word[:length]] = 2 + len(states)
    moves = set()
    for beginning, state in states.items():
        for origin in (0, 1) if len(beginning) == 1 else (states[beginning[:-1]],):
            moves.add((origin, beginning[-1], state))
        if beginning in words:
            moves |= {(state, " ", 1), (state, "\n", 1)}
    return (True, False, *(beginning in words for beginning in states)), tuple(sorted(moves))


def is_text(words, text):
    return text == "" or all(word in words for word in re.split("[ \n]", text))


class Lexicon(unittest.TestCase):
    def check(self, words, expected):
        with self.subTest(words=words):
            self.assertEqual(lexicon(words), expected)
            self.assertEqual(machine_of(words), expected)

    def check_bad(self, words):
        with self.subTest(words=words):
            with self.assertRaises(BadWords) as caught:
                lexicon(words)
            self.assertIs(type(caught.exception), BadWords)

    def test_example_of_the_document(self):
        self.check(("to", "t"), (
            (True, False, True, True),
            ((0, "t", 2), (1, "t", 2), (2, "\n", 1), (2, " ", 1), (2, "o", 3), (3, "\n", 1), (3, " ", 1))))

    def test_words_with_equal_beginnings(self):
        self.check(("ab", "ac", "b"), (
            (True, False, False, True, True, True),
            ((0, "a", 2), (0, "b", 5), (1, "a", 2), (1, "b", 5), (2, "b", 3), (2, "c", 4),
             (3, "\n", 1), (3, " ", 1), (4, "\n", 1), (4, " ", 1), (5, "\n", 1), (5, " ", 1))))

    def test_a_word_that_is_the_beginning_of_another_one(self):
        ends = (True, False, True, False, True)
        moves = ((0, "a", 2), (1, "a", 2), (2, "\n", 1), (2, " ", 1), (2, "b", 3), (3, "c", 4),
                 (4, "\n", 1), (4, " ", 1))
        self.check(("a", "abc"), (ends, moves))
        self.check(("abc", "a"), (ends, moves))

    def test_moves_are_ascending(self):
        # Characters ahead of the separators do not exist; those behind them are sorted with them.
        self.check(("z!", "z", "A"), (
            (True, False, True, True, True),
            ((0, "A", 4), (0, "z", 2), (1, "A", 4), (1, "z", 2), (2, "\n", 1), (2, " ", 1), (2, "!", 3),
             (3, "\n", 1), (3, " ", 1), (4, "\n", 1), (4, " ", 1))))

    def test_kinds(self):
        machine = lexicon(("to", "t"))
        self.assertIs(type(machine), tuple)
        for told in machine + machine[1]:
            self.assertIs(type(told), tuple)
        for end in machine[0]:
            self.assertIs(type(end), bool)

    def test_against_the_definition(self):
        chance = random.Random(111)
        for _ in range(200):
            words = tuple({"".join(chance.choice("abc") for _ in range(chance.randint(1, 4))): True
                           for _ in range(chance.randint(1, 12))})
            self.check(words, machine_of(words))

    def test_numbers_of_words(self):
        words = tuple("abcdefghijklmnopqrstuvw")
        self.check(words[:20], machine_of(words[:20]))
        self.check(words[:1], machine_of(words[:1]))
        self.check_bad(words[:21])
        self.check_bad(words)
        self.check_bad(())

    def test_lengths_of_words(self):
        self.check(("abcdefghij",), machine_of(("abcdefghij",)))
        self.check(tuple(letter * 10 for letter in "abcdefghijklmnopqrst"),
                   machine_of(tuple(letter * 10 for letter in "abcdefghijklmnopqrst")))
        self.check_bad(("abcdefghijk",))
        self.check_bad(("a", "abcdefghijk"))
        self.check_bad(("",))
        self.check_bad(("a", "", "b"))

    def test_spaces_and_newlines(self):
        for word in (" ", "\n", "a b", " a", "a ", "a\nb", "a\n", "\na"):
            self.check_bad((word,))
            self.check_bad(("x", word))

    def test_a_word_twice(self):
        self.check_bad(("a", "a"))
        self.check_bad(("ab", "b", "ab"))
        self.check(("a", "A"), machine_of(("a", "A")))


class Texts(unittest.TestCase):
    def check(self, words, text, expected):
        with self.subTest(words=words, text=text):
            self.assertIs(accepts(lexicon(words), text), expected)
            self.assertIs(is_text(words, text), expected)

    def test_accepts(self):
        words = ("to", "t")
        for text in ("", "t", "to", "t t", "t to", "to\nto", "t\nto t", "to to to to\nt"):
            self.check(words, text, True)
        for text in (" ", "\n", "t ", "to\n", " t", "\nt", "t  to", "t \nto", "t\n\nto", "o", "tt", "tto", "toto",
                     "t o", "T", "too", "t, t"):
            self.check(words, text, False)
        self.check(("ab", "abcd"), "ab abcd ab", True)
        self.check(("ab", "abcd"), "ab abc ab", False)

    def test_against_the_definition(self):
        chance = random.Random(112)
        good = 0
        for _ in range(300):
            words = tuple({"".join(chance.choice("ab") for _ in range(chance.randint(1, 3))): True
                           for _ in range(chance.randint(1, 4))})
            for _ in range(10):
                text = "".join(chance.choice("aabb \n") for _ in range(chance.randint(0, 7)))
                good += is_text(words, text)
                self.check(words, text, is_text(words, text))
        self.assertGreater(good, 400)

    def test_run(self):
        machine = lexicon(("to", "t"))
        for state, text, expected in (
                (0, "", 0), (1, "", 1), (3, "", 3), (0, "t", 2), (1, "t", 2), (0, "to", 3), (2, "o", 3), (2, " ", 1),
                (3, "\n", 1), (0, "to t", 2), (2, "o\nto ", 1), (0, " ", None), (1, " ", None), (1, "\n", None),
                (3, "o", None), (2, "t", None), (0, "ot", None), (0, "x", None), (0, "t  t", None), (3, " to to", 3)):
            with self.subTest(state=state, text=text):
                found = run(machine, state, text)
                self.assertEqual(found, expected)
                self.assertEqual(found is None, expected is None)

    def test_a_text_goes_on_where_another_one_ended(self):
        machine = lexicon(("to", "ton", "no"))
        for text in ("to ton no", "ton\nto no", "no no ton ton"):
            for at in range(len(text) + 1):
                self.assertEqual(run(machine, run(machine, 0, text[:at]), text[at:]), run(machine, 0, text))
            self.assertTrue(accepts(machine, text))

    def test_nothing_that_is_passed_is_changed(self):
        words = ("to", "t")
        machine = lexicon(words)
        run(machine, 0, "to t")
        accepts(machine, "to t")
        self.assertEqual((words, machine), (("to", "t"), machine_of(words)))


if __name__ == "__main__":
    unittest.main()
