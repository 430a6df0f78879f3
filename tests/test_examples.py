"""The document's examples."""

import unittest

from lines import ask_of, search, signs, sure

TWICE = [(0, [0, 0]), (0, ["a"])]
CHAIN = [(0, ["a", 0]), (0, ["a"])]


class Examples(unittest.TestCase):
    def test_two_or_one(self):
        told = ask_of(1, TWICE, signs(), search(0, 8, 300), sure())
        self.assertEqual(told, [[0, 1, 97], [1, 4, 3, 97, 97, 97], [0, 0]])

    def test_chain(self):
        self.assertEqual(ask_of(1, CHAIN, search(0, 5, 300), search(0, 5, 3)), [[0, 6], [2]])


if __name__ == "__main__":
    unittest.main()
