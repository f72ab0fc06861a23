import random
import re
import unittest

from surelyread.best import best
from surelyread.errors import BadWords
from surelyread.grammars import parse_grammar
from surelyread.needs import effort
from surelyread.readings import text_of
from surelyread.strips import is_strip
from surelyread.worded import best_worded
from tests.brute import NO_WISHES, Maker, all_allowed, cases, cost_of, ranked, readings, regions_of, told_by

LETTERS = parse_grammar('shape i "i" { "#" "." "#" } shape l "l" { "#" "#" "#" } across p = (i | l)*;')
I, L = (0, 1, ()), (1, 1, ())


def is_text(words, text):
    return text == "" or all(word in words for word in re.split("[ \n]", text))


def best_of(parts, region, rows, wishes, words):
    """The best worded reading, told by all readings."""
    found = [pair for pair in ranked(parts, region, rows, wishes)
             if is_text(words, told_by(parts, region, pair[1]))]
    return found[0] if found else None


def with_texts(parts, chance, labels, joints):
    """The parts with other labels and joints."""
    return tuple((part[0], part[1], chance.choice(joints), part[3]) if is_strip(part)
                 else (part[0], part[1], chance.choice(labels), *part[3:]) for part in parts)


class Cases(unittest.TestCase):
    def check(self, parts, region, rows, words, expected, wishes=NO_WISHES):
        with self.subTest(parts=parts, region=region, rows=rows, wishes=wishes, words=words):
            self.assertEqual(best_worded(parts, region, rows, wishes, words), expected)

    def check_text(self, parts, width, words, expected):
        """Checks the text of the best worded reading of a white page of one row."""
        page = (len(parts) - 1, 0, 0, width, 1)
        with self.subTest(parts=parts, width=width, words=words):
            found = best_worded(parts, page, ("." * width,), NO_WISHES, words)
            self.assertEqual(found, best_of(parts, page, ("." * width,), NO_WISHES, words))
            self.assertEqual(None if found is None else text_of(parts, page, found[1]), expected)


class Plain(Cases):
    def test_example_of_the_document(self):
        self.check(LETTERS, (2, 0, 0, 2, 3), ("##", "..", "##"), ("li", "ll"), (1, (L, I)))

    def test_no_worded_reading(self):
        self.check(LETTERS, (2, 0, 0, 2, 3), ("##", "..", "##"), ("l", "i", "lll"), None)
        self.check(LETTERS, (2, 0, 0, 3, 3), ("##", "..", "##"), ("li", "ll"), None)
        self.check(LETTERS, (2, 0, 0, 2, 2), ("##", ".."), ("li", "ll"), None)
        self.check(LETTERS, (2, 0, 0, 2, 3), ("##", "..", "##"), ("li",), None, ((), ((0, 1, 0, 1, 3),)))

    def test_the_first_one_of_several(self):
        rows = ("##", "#.", "##")
        self.check(LETTERS, (2, 0, 0, 2, 3), rows, ("ii", "ll"), (1, (I, I)))
        self.check(LETTERS, (2, 0, 0, 2, 3), rows, ("ll", "ii"), (1, (I, I)))
        parts = parse_grammar('plain a white "x"; plain b white "y"; across p = (a 1 to 2 | b 1 to 2)*;')
        self.check(parts, (2, 0, 0, 2, 1), ("..",), ("x", "y", "xy", "yx"), (0, ((0, 1, ()), (1, 1, ()))))
        self.check(parts, (2, 0, 0, 2, 1), ("..",), ("x", "y", "yx"), (0, ((0, 2, ()),)))
        self.check(parts, (2, 0, 0, 2, 1), ("..",), ("y", "yx"), (0, ((1, 1, ()), (0, 1, ()))))

    def test_the_first_one_of_texts_of_a_piece(self):
        # The line has no text, or one, with the same cost: what comes first depends on the moves alone.
        for first, second in (("", "x"), ("x", ""), ("x", "y"), ("y", "x")):
            parts = parse_grammar(f'plain a white "{first}"; plain b white "{second}"; across line = a 1 | b 1;'
                                  " down p = line 1, line 1;")
            one = (0, 1, ((0, 1, ()),))
            other = (1, 1, ((0, 1, ()),))
            self.check(parts, (3, 0, 0, 1, 2), (".", "."), ("x", "y"), (0, (one, other)))
            self.check(parts, (3, 0, 0, 1, 2), ("#", "."), ("x", "y"), (1, (one, other)))

    def test_leaves(self):
        parts = parse_grammar('plain w white "ab" cost 3; shape s "a" { "#." } plain e black;')
        self.check(parts, (0, 0, 0, 2, 1), ("#.",), ("ab", "b"), (4, ()))
        self.check(parts, (0, 0, 0, 2, 1), ("#.",), ("a", "b"), None)
        self.check(parts, (1, 0, 0, 2, 1), ("##",), ("a", "b"), (1, ()))
        self.check(parts, (1, 0, 0, 2, 1), ("##",), ("aa",), None)
        self.check(parts, (1, 0, 0, 1, 1), ("##",), ("a", "b"), None)
        self.check(parts, (2, 0, 0, 2, 1), ("#.",), ("aa",), (1, ()))
        self.check(parts, (2, 0, 0, 2, 1), ("#.",), ("aa",), None, ((), ((2, 0, 0, 2, 1),)))

    def test_a_lexicon_that_is_none(self):
        words = tuple("abcdefghijklmnopqrstu")
        for wrong in ((), ("",), ("a", ""), ("a b",), ("a\n",), ("a", "b", "a"), ("abcdefghijk",), words):
            for region in ((2, 0, 0, 2, 3), (2, 0, 0, 2, 2), (0, 0, 0, 1, 3)):
                with self.assertRaises(BadWords) as caught:
                    best_worded(LETTERS, region, ("##", "..", "##"), NO_WISHES, wrong)
                self.assertIs(type(caught.exception), BadWords)
        self.check(LETTERS, (2, 0, 0, 2, 3), ("##", "..", "##"), words[:19] + ("li",), (1, (L, I)))

    def test_wishes(self):
        rows = ("##", "..", "##")
        self.check(LETTERS, (2, 0, 0, 2, 3), rows, ("li", "ii"), (0, (I, I)))
        self.check(LETTERS, (2, 0, 0, 2, 3), rows, ("li", "ii"), (1, (L, I)), (((1, 0, 0, 1, 3),), ()))
        self.check(LETTERS, (2, 0, 0, 2, 3), rows, ("li", "ii"), (1, (L, I)), ((), ((0, 0, 0, 1, 3),)))
        self.check(LETTERS, (2, 0, 0, 2, 3), rows, ("li", "ii"), None, (((1, 1, 0, 1, 3),), ()))
        self.check(LETTERS, (2, 0, 0, 2, 3), rows, ("li", "ii"), None, ((), ((2, 0, 0, 2, 3),)))


class Texts(Cases):
    def test_joints(self):
        head = 'plain a white "a"; plain b white "b" cost 1; '
        for joint, words, expected in (
                ("", ("aa",), "aa"), ("", ("ab", "ba"), "ab"), (" ", ("a",), "a a"), (" ", ("b",), "b b"),
                (" ", ("aa",), None), ("\n", ("a",), "a\na"), ("\n", ("aa", "b"), "b\nb"), ("b", ("aba",), "aba"),
                ("a b", ("aa", "ba"), "aa ba"), ("x", ("axa",), "axa"), ("x", ("ax", "a"), None),
                (" x ", ("a", "x"), "a x a"), ("  ", ("a",), None), ("- ", ("a-", "a"), "a- a"), (" -", ("a",), None)):
            parts = parse_grammar(f'{head}across p join "{joint}" = (a 1 | b 1)*;')
            self.check_text(parts, 2, words, expected)

    def test_labels(self):
        for label, words, expected in (
                ("to", ("toto",), "toto"), ("to", ("to",), None), ("t", ("tt", "t"), "tt"), ("to t", ("to", "tto"), None),
                ("o t", ("o", "to", "t"), "o to t"), (" ", ("t",), None), ("", ("t",), ""), ("\n", ("t",), None),
                ("t o", ("t", "ot", "o"), "t ot o"), ("t ", ("t",), None)):
            parts = parse_grammar(f'plain a white "{label}"; across p = a 1, a 1;')
            self.check_text(parts, 2, words, expected)

    def test_labels_that_end_words_and_begin_others(self):
        parts = parse_grammar('plain a white "th"; plain b white "e c"; plain c white "at"; plain d white " ";'
                              ' across p = a 1, b 1, c 1 | a 1, c 1, d 1, c 1;')
        self.check_text(parts, 3, ("the", "cat"), "the cat")
        self.check_text(parts, 3, ("the", "at"), None)
        self.check_text(parts, 4, ("that", "at"), "that at")
        self.check_text(parts, 4, ("that", "hat"), None)

    def test_pieces_without_text_leave_no_joint(self):
        for joint in (" ", "\n", "-"):
            parts = parse_grammar(f'plain a white "a"; plain e white; across p join "{joint}" = e 1, e 1, a 1, e 1,'
                                  " a 1, e 1;")
            self.check_text(parts, 6, ("a", "a-a"), "a" + joint + "a")
            self.check_text(parts, 6, ("b", "-a"), None)
        # Lines without a text between others.
        parts = parse_grammar('plain a white "a"; plain e white; across line = (a 1 | e 1)*; across gap = (e 1)*;'
                              ' across p join " " = gap 1, line 1, gap 1, line 2, gap 1;')
        self.check_text(parts, 6, ("aa",), "aa")
        self.check_text(parts, 6, ("a",), "a a")
        self.check_text(parts, 6, ("b",), "")

    def test_joints_of_strips_in_strips(self):
        parts = parse_grammar('plain a white "a"; plain b white "b"; across line join "-" = (a 1 | b 1)*;'
                              ' across p join "+" = (line 2)*;')
        self.check_text(parts, 4, ("a-b+b-a",), "a-b+b-a")
        self.check_text(parts, 4, ("a-b", "b-a"), None)
        parts = parse_grammar('plain a white "a"; plain b white "b"; across line join "-" = (a 1 | b 1)*;'
                              ' across p join "\n" = (line 1 to 2)*;')
        self.check_text(parts, 4, ("b-a", "a-b"), "a-b\na-b")
        self.check_text(parts, 4, ("b-a", "b-b"), "b-a\nb-a")
        self.check_text(parts, 4, ("a-b", "b"), "b\nb\nb\nb")
        self.check_text(parts, 3, ("a-b", "b-b"), None)

    def test_separators_at_the_ends(self):
        for text, good in (("t", True), (" t", False), ("t ", False), ("\nt", False), ("t\n", False), ("t t", True),
                           ("t\nt", True), ("t  t", False), ("t\n t", False)):
            parts = parse_grammar(f'plain a white "{text}"; across p = a;')
            self.check_text(parts, 1, ("t",), text if good else None)


class Enumerated(Cases):
    LABELS = ("", "", "a", "b", "ab", "ba", " ", "a ", "\n", " b", "a b", "b\na", "aa")
    JOINTS = ("", "", "\n", " ", "a", "b", " a", "b ", "a b")

    def words(self, chance, texts):
        """Some words, among them often those of one of the texts."""
        found = {"".join(chance.choice("ab") for _ in range(chance.randint(1, 4))): True
                 for _ in range(chance.randint(1, 3))}
        told = re.split("[ \n]", chance.choice(texts or [""]))
        if chance.random() < 0.7 and all(0 < len(word) <= 10 for word in told):
            found.update(dict.fromkeys(told))
        return tuple(found)[:20]

    def test_against_all_readings(self):
        chance = random.Random(121)
        several = worded = best_ones = 0
        for parts, region, rows, wishes in cases(121, 400, limit=120):
            parts = with_texts(parts, chance, self.LABELS, self.JOINTS)
            words = self.words(chance, [told_by(parts, region, one) for one in readings(parts, region)])
            for told in (NO_WISHES, wishes):
                expected = best_of(parts, region, rows, told, words)
                self.check(parts, region, rows, words, expected, told)
                if expected is not None:
                    self.check_the_best(parts, region, rows, told, words)
                    worded += told_by(parts, region, expected[1]) != ""
                    best_ones += expected == best(parts, region, rows, told)
                    costs = [one for one, other in ranked(parts, region, rows, told)
                             if is_text(words, told_by(parts, region, other))]
                    several += costs.count(costs[0]) > 1
        self.assertGreater(worded, 100)
        self.assertGreater(best_ones, 50)
        self.assertGreater(several, 50)

    def check_the_best(self, parts, region, rows, wishes, words):
        """The worded reading costs at least what the best one costs, and is this one where it is worded."""
        found = best_worded(parts, region, rows, wishes, words)
        told = best(parts, region, rows, wishes)
        self.assertGreaterEqual(found[0], told[0])
        self.assertEqual(found[0], cost_of(parts, region, found[1], rows))
        self.assertTrue(all_allowed(parts, regions_of(parts, region, found[1]), wishes))
        self.assertTrue(is_text(words, told_by(parts, region, found[1])))
        if is_text(words, told_by(parts, region, told[1])):
            self.assertEqual(found, told)

    def test_lines_of_letters(self):
        chance = random.Random(122)
        text = ('plain a white "a"; plain b black "b"; plain s white " " cost 1; plain e white cost 1;'
                ' across line = (a 1 | b 1 | s 1 | e 1)*; down p {}= (line 1)*;')
        found = 0
        for joint in ("", 'join ""', 'join " "', 'join "a"', 'join "b "'):
            parts = parse_grammar(text.format(joint))
            for width, height in ((1, 3), (2, 2), (3, 1), (2, 3)):
                page = (5, 0, 0, width, height)
                rows = Maker(chance.randrange(1000)).image(width, height)
                texts = [told_by(parts, page, one) for one in readings(parts, page)]
                for _ in range(3):
                    words = self.words(chance, texts)
                    expected = best_of(parts, page, rows, NO_WISHES, words)
                    self.check(parts, page, rows, words, expected)
                    found += expected is not None and expected[0] > 2
        self.assertGreater(found, 20)

    def test_the_best_reading_where_its_text_is_worded(self):
        for rows in (("##", "..", "##"), ("##", "#.", "##"), ("##", "##", "##"), ("..", ".#", "..")):
            told = best(LETTERS, (2, 0, 0, 2, 3), rows, NO_WISHES)
            text = text_of(LETTERS, (2, 0, 0, 2, 3), told[1])
            self.check(LETTERS, (2, 0, 0, 2, 3), rows, (text, "ii", "l") if text != "ii" else (text,), told)


class Large(Cases):
    # 20 words of 10 letters: the digits of the multiples of 37.
    WORDS = tuple("".join("ab"[37 * number >> at & 1] for at in range(10)) for number in range(1, 21))

    def test_all_states_of_a_lexicon(self):
        parts = parse_grammar('plain a white "a"; plain b black "b"; plain s white " " cost 3; plain e black "" cost 2;'
                              ' across line = (a 1 | b 1 | s 1 | e 1)*; down p join "" = (line 1 to 4)*;')
        self.assertGreater(effort(parts, 16, 16), 3000)
        rows = Maker(123).image(16, 16)
        told, reading = best_worded(parts, (5, 0, 0, 16, 16), rows, NO_WISHES, self.WORDS)
        self.assertTrue(is_text(self.WORDS, told_by(parts, (5, 0, 0, 16, 16), reading)))
        self.assertEqual(told, cost_of(parts, (5, 0, 0, 16, 16), reading, rows))
        self.assertGreaterEqual(told, best(parts, (5, 0, 0, 16, 16), rows, NO_WISHES)[0])

    def test_strips_within_one_another(self):
        parts = parse_grammar('plain a white "a"; plain b black "b"; plain s white " " cost 1; plain e black;'
                              " across u = (a 1 | b 1 | s 1 | e 1)*; across v = (u 1 to 4)*;"
                              " across w = (v 1 to 6)*; across p = (w 1 to 12)*;")
        rows = ("..#.#..#.##..#.#",)
        words = ("aabab", "aab", "abb", "abab", "bab")
        told, reading = best_worded(parts, (7, 0, 0, 16, 1), rows, NO_WISHES, words)
        # One line of letters alone has the same costs.
        line = parts[:5]
        self.assertEqual(best_worded(line, (4, 0, 0, 16, 1), rows, NO_WISHES, words)[0], told)
        self.assertTrue(is_text(words, told_by(parts, (7, 0, 0, 16, 1), reading)))
        self.assertEqual(told, cost_of(parts, (7, 0, 0, 16, 1), reading, rows))

    def test_a_row_against_the_texts_of_its_width(self):
        # Each pixel is a letter or a space: the texts are told one by one.
        parts = parse_grammar('plain a white "a"; plain b black "b"; plain s white " " cost 1;'
                              " across p = (a 1 | b 1 | s 1)*;")
        words = ("ab", "b", "bba")
        rows = (".#.##.##",)
        texts = [told_by(parts, (3, 0, 0, 8, 1), one) for one in readings(parts, (3, 0, 0, 8, 1))]
        self.assertEqual(len(texts), 3 ** 8)
        costs = [sum((letter == "b") != (pixel == "#") for letter, pixel in zip(text, rows[0])) + text.count(" ")
                 for text in texts if is_text(words, text)]
        self.assertEqual(best_worded(parts, (3, 0, 0, 8, 1), rows, NO_WISHES, words)[0], min(costs))


if __name__ == "__main__":
    unittest.main()
