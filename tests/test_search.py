"""Points 4 and 5: search and next."""

import unittest

from lines import ask, ask_of, load, search, search_behind

A, B, C = 97, 98, 99
TWICE = [(0, [0, 0]), (0, ["a"])]
CHAIN = [(0, ["a", 0]), (0, ["a"])]
# 0 covers every text over a, b and c in one way, and those that end with ca in two.
ENDS = [(0, ["a", 0]), (0, ["b", 0]), (0, ["c", 0]), (0, []), (0, ["c", "a"])]


class Search(unittest.TestCase):
    def test_no_signs(self):
        told = ask(search(0, 0, 1), search(0, 8, 300), search(0, 8, 0), search_behind(0, 8, 300, ""),
                   search_behind(0, 8, 0, ""))
        self.assertEqual(told, [[0, 1], [0, 1], [2], [0, 0], [0, 0]])

    def test_no_signs_and_the_empty_text_in_several_ways(self):
        rules = [(0, []), (0, [])]
        self.assertEqual(ask_of(1, rules, search(0, 8, 1), search(0, 0, 0)), [[1, 1, 0], [2]])

    def test_empty_text_in_infinitely_many_ways(self):
        self.assertEqual(ask_of(1, [(0, [0]), (0, []), (0, ["a"])], search(0, 3, 5)), [[1, 1, 0]])

    def test_no_tries(self):
        self.assertEqual(ask_of(1, TWICE, search(0, 8, 0), search_behind(0, 8, 0, "aaa")), [[2], [2]])

    def test_just_enough_tries(self):
        told = ask_of(1, TWICE, search(0, 8, 4), search(0, 8, 3), search(0, 3, 4), search(0, 2, 3), search(0, 2, 2))
        self.assertEqual(told, [[1, 4, 3, A, A, A], [2], [1, 4, 3, A, A, A], [0, 3], [2]])
        self.assertEqual(ask_of(1, CHAIN, search(0, 5, 6), search(0, 5, 5), search(0, 5, 7)), [[0, 6], [2], [0, 6]])

    def test_most(self):
        told = ask_of(1, TWICE, search(0, 0, 300), search(0, 1, 300), search(0, 2, 300), search(0, 3, 300))
        self.assertEqual(told, [[0, 1], [0, 2], [0, 3], [1, 4, 3, A, A, A]])
        self.assertEqual(ask_of(1, CHAIN, search(0, 8, 300)), [[0, 9]])

    def test_all_tries(self):
        # 1 + 2 + 4 + .. + 128 texts of at most 7 bytes, and 511 of at most 8.
        rules = [(0, ["a", 0]), (0, ["b", 0]), (0, [])]
        told = ask_of(1, rules, search(0, 7, 300), search(0, 7, 255), search(0, 7, 254), search(0, 8, 300))
        self.assertEqual(told, [[0, 255], [0, 255], [2], [2]])

    def test_order(self):
        # By length first: cc stands behind all texts of one byte, and behind ca.
        rules = [(0, ["c", "c"]), (0, ["c", "c"]), (0, ["a", "b", "a"]), (0, ["a", "b", "a"]), (0, ["c", "b"]),
                 (0, [(98, 99), "b"])]
        told = ask_of(1, rules, search(0, 3, 300), search_behind(0, 3, 300, "cb"), search_behind(0, 3, 300, "cc"),
                      search_behind(0, 3, 300, "aba"))
        self.assertEqual(told, [[1, 12, 2, C, B], [1, 1, 2, C, C], [1, 4, 3, A, B, A], [0, 23]])

    def test_other_nonterminals(self):
        rules = [(0, ["a"]), (1, ["a", "b"]), (1, ["a", 2]), (2, ["b"])]
        told = ask_of(3, rules, search(0, 3, 300), search(1, 3, 300), search(2, 3, 300))
        self.assertEqual(told, [[0, 15], [1, 5, 2, A, B], [0, 15]])

    def test_infinitely_many_are_several(self):
        self.assertEqual(ask_of(1, [(0, [0]), (0, ["b"]), (0, ["a", "a"])], search(0, 4, 300)), [[1, 3, 1, B]])

    def test_signs_speak_for_their_classes(self):
        rules = [(0, [(10, 20)]), (0, [(15, 30)])]
        told = ask_of(1, rules, search(0, 8, 300), search_behind(0, 1, 300, [15]), search_behind(0, 2, 300, [15]))
        self.assertEqual(told, [[1, 3, 1, 15], [0, 1], [0, 10]])

    def test_many_signs(self):
        rules = [(0, [(byte, byte) for byte in range(first, first + 8)]) for first in range(0, 256, 8)]
        rules += [(1, [(0, 255), (255, 255)]), (1, [(0, 0), (0, 255)])]
        told = ask_of(2, rules, search(0, 8, 300), search(0, 1, 300), search(0, 1, 257), search(0, 1, 256),
                      search(1, 8, 300), search_behind(1, 8, 300, [0, 200]), search_behind(1, 8, 55, [0, 200]),
                      search_behind(1, 8, 54, [0, 200]), search_behind(1, 8, 300, [255] * 8))
        self.assertEqual(told, [[2], [0, 257], [0, 257], [2], [2], [1, 55, 2, 0, 255], [1, 55, 2, 0, 255], [2], [0, 0]])

    def test_tries_count_from_the_first_text_looked_at(self):
        told = ask_of(1, ENDS, search(0, 8, 300), search(0, 8, 11), search(0, 8, 10), search(0, 1, 4))
        self.assertEqual(told, [[1, 11, 2, C, A], [1, 11, 2, C, A], [2], [0, 4]])


class Next(unittest.TestCase):
    def test_behind_the_empty_text(self):
        told = ask_of(1, ENDS, search_behind(0, 8, 300, ""), search_behind(0, 8, 10, ""), search_behind(0, 8, 9, ""))
        self.assertEqual(told, [[1, 10, 2, C, A], [1, 10, 2, C, A], [2]])

    def test_the_given_text_is_not_looked_at(self):
        told = ask_of(1, ENDS, search_behind(0, 8, 300, "ca"), search_behind(0, 8, 300, "bcc"))
        self.assertEqual(told, [[1, 9, 3, A, C, A], [1, 7, 3, C, C, A]])

    def test_one_behind_another(self):
        told = ask_of(1, TWICE, search_behind(0, 8, 300, "aa"), search_behind(0, 8, 300, "aaa"),
                      search_behind(0, 8, 300, "a" * 7), search_behind(0, 8, 300, "a" * 8))
        self.assertEqual(told, [[1, 1, 3, A, A, A], [1, 1, 4] + [A] * 4, [1, 1, 8] + [A] * 8, [0, 0]])

    def test_last_of_its_length(self):
        told = ask_of(1, ENDS, search_behind(0, 3, 300, "cc"), search_behind(0, 3, 300, "ccc"),
                      search_behind(0, 2, 300, "cc"), search_behind(0, 2, 0, "cc"), search_behind(0, 2, 0, "cb"))
        self.assertEqual(told, [[1, 7, 3, A, C, A], [0, 0], [0, 0], [0, 0], [2]])

    def test_carry(self):
        rules = [(0, ["b", "a", "a"])] * 2 + [(0, ["c"])]
        told = ask_of(1, rules, search_behind(0, 3, 300, "acc"), search_behind(0, 3, 300, "acb"))
        self.assertEqual(told, [[1, 1, 3, B, A, A], [1, 2, 3, B, A, A]])

    def test_text_longer_than_most(self):
        told = ask_of(1, ENDS, search_behind(0, 2, 300, "aaa"), search_behind(0, 0, 300, "a"),
                      search_behind(0, 8, 300, "a" * 9), search_behind(0, 8, 0, "a" * 24),
                      search_behind(0, 0, 0, ""))
        self.assertEqual(told, [[0, 0]] * 5)

    def test_just_enough_tries(self):
        told = ask_of(1, CHAIN, search_behind(0, 5, 3, "aa"), search_behind(0, 5, 2, "aa"),
                      search_behind(0, 5, 4, "aa"), search_behind(0, 5, 300, "aa"))
        self.assertEqual(told, [[0, 3], [2], [0, 3], [0, 3]])

    def test_a_byte_that_is_no_sign(self):
        rules = [(0, [(10, 20)]), (0, [(15, 30)])]
        told = ask_of(1, rules, search_behind(0, 2, 300, [11]), search_behind(0, 2, 300, [9]),
                      search_behind(0, 2, 300, [10, 21, 30]), search_behind(0, 2, 300, [10, 21]))
        self.assertEqual(told, [[-7], [-7], [-7], [0, 6]])
        self.assertEqual(ask(search_behind(0, 8, 300, "a")), [[-7]])

    def test_all_texts_in_turn(self):
        found = ask(load(1, ENDS), search(0, 4, 300))[1]
        texts = []
        while found[0] == 1:
            texts.append("".join(chr(byte) for byte in found[3:]))
            found = ask(load(1, ENDS), search_behind(0, 4, 300, texts[-1]))[1]
        self.assertEqual(found[0], 0)
        before = [first + second for first in "abc" for second in "abc"]
        self.assertEqual(texts, ["ca"] + [letter + "ca" for letter in "abc"] + [pair + "ca" for pair in before])


if __name__ == "__main__":
    unittest.main()
