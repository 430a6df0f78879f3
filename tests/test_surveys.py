"""Points 8 to 10: tally, widest and odds, each over all texts of signs up to a length."""

import unittest

from lines import MOST, ask, ask_of, core, load, odds, search, tally, ways, widest

A, B, C = 97, 98, 99
TWICE = [(0, [0, 0]), (0, ["a"])]
CALLS = (tally, widest, odds)


def rules_with_signs(number):
    """Rules of a nonterminal that nothing leads to, by which a grammar has so many signs."""
    letters = [(byte, byte) for byte in range(number)]
    return [(1, letters[first:first + 8]) for first in range(0, number, 8)]


def powers():
    """Rules by which 1 to 4 cover the empty piece in 10, 10^5, 10^30 and 10^60 ways."""
    return [(1, [])] * 10 + [(2, [1] * 5), (3, [2] * 6), (4, [3] * 2)]


class TooManyTexts(unittest.TestCase):
    def test_most_texts(self):
        # As many signs as can be for a length, and one more. No grammar has just 300 or 301 texts: the nearest are
        # 273 and 307.
        for signs, most, texts in ((256, 0, 1), (256, 1, 257), (16, 2, 273), (6, 3, 259), (3, 4, 121), (2, 7, 255),
                                   (1, 8, 9), (0, 8, 1), (3, 3, 40), (2, 5, 63)):
            told = ask_of(2, rules_with_signs(signs), tally(0, most), widest(0, most), odds(0, most))
            self.assertEqual(told, [[0, texts, 0, 0, 0], [0, 0, 0, 0], [0, 0]], (signs, most))

    def test_more_than_300(self):
        for signs, most in ((256, 2), (17, 2), (18, 2), (7, 3), (4, 4), (3, 5), (3, 8), (2, 8), (256, 8)):
            for call in CALLS:
                self.assertEqual(ask_of(2, rules_with_signs(signs), call(0, most)), [[-10]], (signs, most))

    def test_all_numbers_of_signs(self):
        for signs in range(2, 257):
            for most in range(2, 9):
                texts = sum(signs ** size for size in range(most + 1))
                self.assertTrue(texts <= 273 or texts >= 307)
                if texts > 300:
                    self.assertEqual(ask_of(2, rules_with_signs(signs), tally(0, most)), [[-10]])
                    break

    def test_it_counts_texts_of_signs_alone(self):
        # 256 bytes, but two signs.
        rules = [(0, [(0, 255)]), (0, [(100, 255)])]
        told = ask_of(1, rules, *[call(0, most) for most in (7, 8) for call in CALLS])
        self.assertEqual(told, [[0, 255, 2, 1, 0], [0, 0, 2, 1, 100], [0, 1, 0, 1], [-10], [-10], [-10]])

    def test_refusal_leaves_the_grammar(self):
        rules = [(0, ["a"]), (0, ["b"]), (0, ["b"])]
        told = ask_of(1, rules, tally(0, 8), widest(0, 8), odds(0, 8), tally(0, 2), search(0, 8, 9))
        self.assertEqual(told, [[-10]] * 3 + [[0, 7, 2, 1, 0], [1, 3, 1, B]])


class Tally(unittest.TestCase):
    def test_new_object(self):
        self.assertEqual(ask(tally(0, 0), tally(0, 8)), [[0, 1, 0, 0, 0]] * 2)

    def test_by_length(self):
        told = ask_of(1, TWICE, *[tally(0, most) for most in range(9)])
        self.assertEqual(told, [[0, most + 1, most, max(most - 2, 0), 0] for most in range(9)])

    def test_empty_text_alone(self):
        told = ask_of(4, [(0, []), (1, []), (1, []), (2, []), (2, [2]), (3, ["a"])], *[tally(a, 0) for a in range(4)])
        self.assertEqual(told, [[0, 1, 1, 0, 0], [0, 1, 1, 1, 0], [0, 1, 1, 1, 1], [0, 1, 0, 0, 0]])

    def test_infinitely_many_are_several_too(self):
        # a in one way, b in two, c in infinitely many.
        rules = [(0, ["a"]), (0, ["b"]), (0, ["b"]), (0, [1]), (1, [1]), (1, ["c"])]
        self.assertEqual(ask_of(2, rules, tally(0, 1), tally(0, 3), tally(1, 1)),
                         [[0, 4, 3, 2, 1], [0, 40, 3, 2, 1], [0, 4, 1, 1, 1]])

    def test_two_letters(self):
        # Texts of b alone that may have an a before and one behind: only the text a is covered in two ways.
        rules = [(0, [1, 2, 1]), (1, []), (1, ["a"]), (2, ["b", 2]), (2, [])]
        told = ask_of(3, rules, tally(0, 0), tally(0, 1), tally(0, 2), tally(0, 7))
        # Four of each length from 2 on.
        self.assertEqual(told, [[0, 1, 1, 0, 0], [0, 3, 3, 1, 0], [0, 7, 7, 1, 0], [0, 255, 27, 1, 0]])

    def test_most_ways_are_not_infinitely_many(self):
        rules = powers() + [(0, [4, 4, "a"]), (0, [5, "b"]), (5, [5]), (5, [])]
        self.assertEqual(ask_of(6, rules, tally(0, 1), tally(4, 1), tally(5, 1)),
                         [[0, 3, 2, 2, 1], [0, 3, 1, 1, 0], [0, 3, 1, 1, 1]])

    def test_texts_that_are_too_great_count(self):
        rules = [(0, [1] * 8), (1, ["a", 1]), (1, [])]
        self.assertEqual(ask_of(2, rules, core(0, "a" * 8), tally(0, 8)), [[-9], [0, 9, 9, 8, 0]])


class Widest(unittest.TestCase):
    def test_none_is_covered(self):
        self.assertEqual(ask(widest(0, 0), widest(0, 8)), [[0, 0, 0, 0]] * 2)
        self.assertEqual(ask_of(2, TWICE, widest(1, 8), widest(0, 0)), [[0, 0, 0, 0]] * 2)

    def test_by_length(self):
        told = ask_of(1, TWICE, *[widest(0, most) for most in range(9)])
        catalan = (1, 1, 2, 5, 14, 42, 132, 429)
        # Of a and aa, which are covered in one way each, a comes first.
        expected = [[0, 0, 0, 0], [0, 0, 1, 1, A], [0, 0, 1, 1, A]]
        expected += [[0, 0, catalan[size - 1], size] + [A] * size for size in range(3, 9)]
        self.assertEqual(told, expected)

    def test_first_of_those_with_as_many(self):
        rules = [(0, ["b"])] * 2 + [(0, ["c"])] * 2 + [(0, ["a", "a"])] * 2 + [(0, ["a"])]
        self.assertEqual(ask_of(1, rules, widest(0, 1), widest(0, 3)), [[0, 0, 2, 1, B]] * 2)

    def test_longer_one_with_more(self):
        rules = [(0, ["b"])] * 2 + [(0, ["c", "a", "b"])] * 3 + [(0, ["c", "b", "a"])] * 3
        self.assertEqual(ask_of(1, rules, widest(0, 2), widest(0, 3)), [[0, 0, 2, 1, B], [0, 0, 3, 3, C, A, B]])

    def test_empty_text(self):
        rules = [(0, []), (0, []), (0, ["a"]), (0, ["a"])]
        self.assertEqual(ask_of(1, rules, widest(0, 0), widest(0, 8)), [[0, 0, 2, 0]] * 2)

    def test_infinitely_many(self):
        rules = [(0, ["a"])] * 9 + [(0, ["b", 1]), (1, [1]), (1, [])]
        told = ask_of(2, rules, widest(0, 0), widest(0, 1), widest(0, 4), widest(1, 4))
        self.assertEqual(told, [[0, 0, 0, 0], [0, 1, 1, B], [0, 1, 1, B], [0, 1, 0]])

    def test_first_with_infinitely_many(self):
        rules = [(0, [0]), (0, ["b", "a"]), (0, ["a", "b"])]
        self.assertEqual(ask_of(1, rules, widest(0, 5)), [[0, 1, 2, A, B]])

    def test_from_most_on_they_count_alike(self):
        # a in 10^35 ways, aa in 10^60, aaa in 10^120.
        rules = powers() + [(0, [3, 3, "a", "a"]), (0, [4, 4, "a", "a", "a"]), (0, [3, 2, "a"])]
        told = ask_of(5, rules, widest(0, 1), widest(0, 2), widest(0, 3), ways(0, "aaa"))
        self.assertEqual(told, [[0, 0, 10 ** 35, 1, A], [0, 0, MOST, 2, A, A], [0, 0, MOST, 2, A, A], [0, MOST]])

    def test_infinitely_many_are_more_than_most(self):
        rules = powers() + [(0, [4, 4, "a"]), (0, ["b", "b", 5]), (5, [5]), (5, [])]
        self.assertEqual(ask_of(6, rules, widest(0, 1), widest(0, 2)), [[0, 0, MOST, 1, A], [0, 1, 2, B, B]])

    def test_signs_and_not_other_bytes(self):
        rules = [(0, [(10, 20), (15, 30)]), (0, [(15, 30), (15, 30)])]
        self.assertEqual(ask_of(1, rules, widest(0, 2)), [[0, 0, 2, 2, 15, 15]])


class Odds(unittest.TestCase):
    def test_no_cores(self):
        self.assertEqual(ask(odds(0, 0), odds(0, 8)), [[0, 0]] * 2)
        told = ask_of(2, [(0, ["a", 0]), (0, []), (1, ["b"])], odds(0, 0), odds(0, 7), odds(1, 3))
        self.assertEqual(told, [[0, 0]] * 3)

    def test_by_length(self):
        told = ask_of(1, TWICE, *[odds(0, most) for most in range(9)])
        self.assertEqual(told, [[0, 0]] * 3 + [[0, 1, 0, 0]] * 6)

    def test_in_the_order_of_the_texts(self):
        rules = [(0, ["c"]), (0, ["c"]), (0, ["b"]), (0, ["a", "a"]), (0, ["b"]), (0, ["a", "a"])]
        told = ask_of(1, rules, odds(0, 0), odds(0, 1), odds(0, 2))
        self.assertEqual(told, [[0, 0], [0, 2, 2, 4, 0, 1], [0, 3, 2, 4, 0, 1, 3, 5]])

    def test_each_pair_once(self):
        # The cores of aaa and longer texts are at odds by the rules 0 and 0 again; x and y by 1 and 2.
        rules = [(0, [0, 0]), (0, [(120, 121)]), (0, [(120, 121)]), (0, ["a"])]
        told = ask_of(1, rules, odds(0, 2), odds(0, 3), odds(0, 4))
        self.assertEqual(told, [[0, 1, 1, 2], [0, 2, 1, 2, 0, 0], [0, 2, 1, 2, 0, 0]])

    def test_first_two_alternatives_alone(self):
        rules = [(0, ["a"]), (0, ["a"]), (0, ["a"]), (0, ["b"])]
        self.assertEqual(ask_of(1, rules, odds(0, 3)), [[0, 1, 0, 1]])

    def test_the_core_and_not_the_root(self):
        rules = [(0, [1]), (0, [2]), (1, [3]), (2, [3]), (3, ["a"]), (3, ["b"]), (3, []), (3, []), (0, ["c", 3])]
        told = ask_of(4, rules, odds(0, 1), odds(3, 1))
        # Over the empty text it is 0, of the nonterminals with two alternatives the smallest; over c it is 3.
        self.assertEqual(told, [[0, 2, 0, 1, 6, 7], [0, 1, 6, 7]])

    def test_infinitely_many_ways(self):
        rules = [(0, ["b"]), (0, [0]), (0, ["a"])]
        self.assertEqual(ask_of(1, rules, odds(0, 1), odds(0, 4)), [[0, 2, 1, 2, 0, 1]] * 2)

    def test_texts_that_are_too_great_have_no_core(self):
        # Over aaaaa the first rule is at odds with the second, which covers it in 792 or in 462 ways.
        rules = [(0, ["a"] * 5), (0, [1] * 8), (1, ["a", 1]), (1, [])]
        told = ask_of(2, rules, core(0, "a" * 5), odds(0, 4), odds(0, 5), odds(0, 8))
        self.assertEqual(told, [[-9], [0, 1, 1, 1], [0, 1, 1, 1], [0, 1, 1, 1]])
        rules[1] = (0, [1] * 7)
        told = ask_of(2, rules, odds(0, 4), odds(0, 5), odds(0, 8))
        self.assertEqual(told, [[0, 1, 1, 1], [0, 2, 1, 1, 0, 1], [0, 2, 1, 1, 0, 1]])

    def test_texts_behind_one_that_is_too_great(self):
        rules = [(0, ["a"] * 5), (0, [1] * 8), (1, ["a", 1]), (1, []), (0, ["b"] * 6), (0, ["b"] * 6)]
        told = ask_of(2, rules, core(0, "a" * 5), odds(0, 5), odds(0, 6), odds(0, 7))
        self.assertEqual(told, [[-9], [0, 1, 1, 1], [0, 2, 1, 1, 4, 5], [0, 2, 1, 1, 4, 5]])

    def test_same_answer_again(self):
        calls = [odds(0, 5), odds(0, 3), odds(0, 8), odds(0, 5), load(1, [(0, ["a"])] * 2), odds(0, 5)]
        told = ask(load(1, TWICE), *calls)
        self.assertEqual(told[1:], [[0, 1, 0, 0]] * 4 + [[0], [0, 1, 0, 1]])

    def test_many_pairs(self):
        # Each of 30 letters is read by two rules of its own.
        rules = [(0, [(byte, byte)]) for byte in range(30)] * 2
        self.assertEqual(ask_of(1, rules, odds(0, 1)),
                         [[0, 30] + [rule for byte in range(30) for rule in (byte, byte + 30)]])


if __name__ == "__main__":
    unittest.main()
