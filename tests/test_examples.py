"""The document's examples."""

import unittest

from lines import ask_of, core, odds, search, signs, sure, tally, widest

TWICE = [(0, [0, 0]), (0, ["a"])]
CHAIN = [(0, ["a", 0]), (0, ["a"])]


class Examples(unittest.TestCase):
    def test_two_or_one(self):
        told = ask_of(1, TWICE, signs(), search(0, 8, 300), sure())
        self.assertEqual(told, [[0, 1, 97], [1, 4, 3, 97, 97, 97], [0, 0]])

    def test_where_two_trees_part(self):
        told = ask_of(1, TWICE, core(0, "aaa"), tally(0, 4), widest(0, 4), odds(0, 4))
        self.assertEqual(told, [[1, 2, 0, 0, 3, 0, 2, 0, 0, 1, 0, 1, 3, 0, 2, 0, 0, 2, 0, 2, 3], [0, 5, 4, 2, 0],
                                [0, 0, 5, 4, 97, 97, 97, 97], [0, 1, 0, 0]])

    def test_chain(self):
        self.assertEqual(ask_of(1, CHAIN, search(0, 5, 300), search(0, 5, 3)), [[0, 6], [2]])


if __name__ == "__main__":
    unittest.main()
