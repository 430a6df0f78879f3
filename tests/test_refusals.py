"""Point 3: the refusals, and which of several that are due is told."""

import itertools
import unittest

from lines import FAR, ask, ask_of, core, load, odds, search, search_behind, signs, tally, ways, widest

RULES = [(0, ["a", 1]), (1, []), (1, ["b"])]
OUT_OF_BYTES = (-1, 256, FAR, -FAR)
SURVEYS = (tally, widest, odds)


def told_of(call):
    """The answer to a call; after it the grammar must be held as before."""
    told = ask_of(2, RULES, call, signs(), ways(0, "ab"))
    if told[1:] != [[0, 2, 97, 98], [0, 1]]:
        raise AssertionError("the call changed what is held")
    return told[0]


class Refusals(unittest.TestCase):
    def test_bytes(self):
        for byte in OUT_OF_BYTES:
            for text in ([byte], [97, byte], [byte] * 25, [97] * 1999 + [byte]):
                self.assertEqual(told_of(ways(0, text)), [-1])
                self.assertEqual(told_of(core(0, text)), [-1])
                self.assertEqual(told_of(search_behind(0, 8, 300, text)), [-1])
        for byte in (0, 255):
            self.assertEqual(told_of(ways(0, [byte])), [0, 0])
            self.assertEqual(told_of(core(0, [byte])), [-8])

    def test_too_many_bytes(self):
        for size in (25, 26, 2000):
            self.assertEqual(told_of(ways(0, [97] * size)), [-3])
            self.assertEqual(told_of(core(0, [97] * size)), [-3])
            self.assertEqual(told_of(search_behind(0, 8, 300, [97] * size)), [-3])
        self.assertEqual(told_of(ways(0, [97] * 24)), [0, 0])
        self.assertEqual(told_of(core(0, [97] * 24)), [-8])
        self.assertEqual(told_of(search_behind(0, 8, 300, [97] * 24)), [0, 0])

    def test_nonterminal(self):
        for a in (-1, 2, 20, FAR, -FAR):
            self.assertEqual(told_of(ways(a, "a")), [-4])
            self.assertEqual(told_of(core(a, "a")), [-4])
            for call in SURVEYS:
                self.assertEqual(told_of(call(a, 2)), [-4])
            self.assertEqual(told_of(search(a, 8, 300)), [-4])
            self.assertEqual(told_of(search_behind(a, 8, 300, "a")), [-4])
        self.assertEqual(told_of(ways(1, "b")), [0, 1])
        self.assertEqual(ask(ways(0, ""), ways(1, ""), load(20, []), ways(19, ""), ways(20, "")),
                         [[0, 0], [-4], [0], [0, 0], [-4]])
        self.assertEqual(ask(core(0, ""), core(1, ""), load(20, []), core(19, ""), core(20, "")),
                         [[-8], [-4], [0], [-8], [-4]])
        for call in SURVEYS:
            told = ask(call(0, 0), call(1, 0), load(20, []), call(19, 0), call(20, 0))
            self.assertEqual([answer[0] for answer in told], [0, -4, 0, 0, -4])

    def test_most(self):
        for most in (-1, 9, FAR, -FAR):
            self.assertEqual(told_of(search(0, most, 300)), [-5])
            for call in SURVEYS:
                self.assertEqual(told_of(call(0, most)), [-5])
            self.assertEqual(told_of(search_behind(0, most, 300, "a")), [-5])
        self.assertEqual(told_of(search(0, 8, 3)), [2])
        self.assertEqual(told_of(search(0, 0, 3)), [0, 1])
        for call in SURVEYS:
            self.assertEqual(told_of(call(0, 0))[0], 0)
            self.assertEqual(told_of(call(0, 7))[0], 0)
            self.assertEqual(told_of(call(0, 8)), [-10])
            self.assertEqual(ask_of(1, [(0, ["a", 0]), (0, [])], call(0, 8))[0][0], 0)

    def test_tries(self):
        for tries in (-1, 301, FAR, -FAR):
            self.assertEqual(told_of(search(0, 8, tries)), [-6])
            self.assertEqual(told_of(search_behind(0, 8, tries, "a")), [-6])
        self.assertEqual(told_of(search(0, 3, 300)), [0, 15])
        self.assertEqual(told_of(search(0, 3, 0)), [2])

    def test_no_sign(self):
        self.assertEqual(told_of(search_behind(0, 8, 300, "ac")), [-7])
        self.assertEqual(told_of(search_behind(0, 0, 0, "c")), [-7])

    def test_the_first_of_several_for_ways(self):
        for byte, size, a in itertools.product((97, -1), (24, 25), (0, 2)):
            due = [-1] * (byte == -1) + [-3] * (size == 25) + [-4] * (a == 2) + [0]
            self.assertEqual(told_of(ways(a, [97] * (size - 1) + [byte]))[0], due[0])

    def test_the_first_of_several_for_core(self):
        # 0 covers texts of a alone, those of 24 are too great; those with b it doesn't cover.
        rules = [(0, [1] * 8), (1, ["a", 1]), (1, []), (1, ["b", "c"])]
        for byte, size, a, letter in itertools.product((97, 256), (1, 24, 25), (0, -FAR), (97, 98)):
            due = ([-1] * (byte == 256) + [-3] * (size == 25) + [-4] * (a == -FAR) + [-8] * (letter == 98)
                   + [-9] * (size == 24) + [1])
            text = [byte] + [letter] * (size - 1) if size > 1 else [byte if byte == 256 else letter]
            told = ask_of(2, rules, core(a, text), ways(0, "a"))
            self.assertEqual([told[0][0], told[1]], [due[0], [0, 8]])

    def test_the_first_of_several_for_the_surveys(self):
        letters = [(0, [(byte, byte)]) for byte in range(17)]
        for call, a, most, rules in itertools.product(SURVEYS, (0, 1), (1, 2, 8, -1, 9), (letters, letters[:1])):
            many = len(rules) == 17 and most in (2, 8)
            due = [-4] * (a == 1) + [-5] * (most in (-1, 9)) + [-10] * many + [0]
            self.assertEqual(ask_of(1, rules, call(a, most))[0][0], due[0])
        # With a greatest length out of bounds there may be far too many texts, or hardly any.
        for call, most in itertools.product(SURVEYS, (FAR, -FAR)):
            self.assertEqual(ask_of(1, letters, call(0, most), call(1, most), signs())[:2], [[-5], [-4]])

    def test_the_first_of_several_for_search(self):
        for a, most, tries in itertools.product((0, -1), (2, 9), (300, 301)):
            due = [-4] * (a == -1) + [-5] * (most == 9) + [-6] * (tries == 301) + [0]
            self.assertEqual(told_of(search(a, most, tries))[0], due[0])

    def test_the_first_of_several_for_next(self):
        for byte, size, a, most, tries, sign in itertools.product(
                (97, 256), (24, 25), (0, FAR), (2, -1), (300, -1), (97, 99)):
            due = ([-1] * (byte == 256) + [-3] * (size == 25) + [-4] * (a == FAR) + [-5] * (most == -1)
                   + [-6] * (tries == -1) + [-7] * (sign == 99) + [0])
            text = [sign] + [97] * (size - 2) + [byte]
            self.assertEqual(told_of(search_behind(a, most, tries, text))[0], due[0])


if __name__ == "__main__":
    unittest.main()
