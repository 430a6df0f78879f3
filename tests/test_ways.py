"""Point 6: ways."""

import unittest

from lines import MOST, ask, ask_of, load, ways

TWICE = [(0, [0, 0]), (0, ["a"])]


def nines():
    """Nonterminals and rules by which the start covers the empty text in 10^60 - 1 ways."""
    t, nine, b2, b3, b4, b5, p5, p10, x, p15, y, p30, z = range(1, 14)
    rules = [(t, [])] * 10 + [(nine, [])] * 9
    for head, below in ((b2, nine), (b3, b2), (b4, b3), (b5, b4)):
        rules += [(head, [t, below]), (head, [nine])]
    rules += [(p5, [t] * 5), (p10, [p5] * 2), (p15, [p5] * 3), (p30, [p15] * 2)]
    rules += [(x, [p10]), (x, [p5]), (x, []), (y, [p15]), (y, []), (z, [p30]), (z, [])]
    return (14, rules + [(0, [b5, x, y, z])])


class Ways(unittest.TestCase):
    def test_none_and_one(self):
        told = ask_of(1, TWICE, ways(0, ""), ways(0, "a"), ways(0, "aa"), ways(0, "b"), ways(0, "ab"), ways(0, "ba"))
        self.assertEqual(told, [[0, 0], [0, 1], [0, 1], [0, 0], [0, 0], [0, 0]])

    def test_several(self):
        catalan = 1
        for size in range(1, 25):
            self.assertEqual(ask_of(1, TWICE, ways(0, "a" * size)), [[0, catalan]])
            catalan = catalan * 2 * (2 * size - 1) // (size + 1)

    def test_other_nonterminals(self):
        rules = [(0, [1, 1]), (1, ["a"]), (1, [(97, 98)]), (2, ["b", 1])]
        told = ask_of(3, rules, ways(0, "aa"), ways(0, "ab"), ways(1, "a"), ways(1, "b"), ways(2, "ba"), ways(2, "aa"))
        self.assertEqual(told, [[0, 4], [0, 2], [0, 2], [0, 1], [0, 2], [0, 0]])

    def test_empty_text(self):
        told = ask_of(3, [(0, []), (0, [1, 1]), (1, []), (1, []), (2, ["a"])], ways(0, ""), ways(1, ""), ways(2, ""))
        self.assertEqual(told, [[0, 5], [0, 2], [0, 0]])

    def test_symbols_that_take_nothing(self):
        rules = [(0, [1, 1, "a", 1]), (1, []), (1, ["a"])]
        told = ask_of(2, rules, ways(0, "a"), ways(0, "aa"), ways(0, "aaa"), ways(0, "aaaa"), ways(0, "aaaaa"))
        self.assertEqual(told, [[0, 1], [0, 3], [0, 3], [0, 1], [0, 0]])

    def test_rows_of_nonterminals_that_may_all_take_nothing(self):
        rules = [(0, [1] * 5), (1, []), (1, ["a"]), (2, [3] * 4), (3, []), (3, []), (3, ["a"])]
        told = ask_of(4, rules, *[ways(0, "a" * size) for size in range(7)], *[ways(2, "a" * size) for size in range(6)])
        self.assertEqual(told, [[0, number] for number in (1, 5, 10, 10, 5, 1, 0, 16, 32, 24, 8, 1, 0)])

    def test_whole_pieces_beside_symbols_that_take_nothing(self):
        rules = [(0, [1, 2, 1]), (1, []), (1, []), (2, ["a"]), (2, [3]), (3, ["a"]), (3, ["a", "a"])]
        self.assertEqual(ask_of(4, rules, ways(0, "a"), ways(0, "aa"), ways(0, "")), [[0, 8], [0, 4], [0, 0]])

    def test_cycle_over_bytes(self):
        rules = [(0, [1]), (1, [0]), (1, ["a"]), (2, [0, "b"])]
        told = ask_of(3, rules, ways(0, "a"), ways(1, "a"), ways(2, "ab"), ways(0, "b"), ways(0, ""), ways(2, "a"))
        self.assertEqual(told, [[1], [1], [1], [0, 0], [0, 0], [0, 0]])

    def test_cycle_of_one(self):
        self.assertEqual(ask_of(1, [(0, [0]), (0, ["a"])], ways(0, "a"), ways(0, "")), [[1], [0, 0]])
        self.assertEqual(ask_of(1, [(0, [0])], ways(0, "a"), ways(0, "")), [[0, 0], [0, 0]])

    def test_cycle_with_symbols_that_take_nothing(self):
        rules = [(0, [1, 0, 1]), (0, ["a"]), (1, [])]
        self.assertEqual(ask_of(2, rules, ways(0, "a"), ways(0, "aa")), [[1], [0, 0]])

    def test_cycle_over_the_empty_piece(self):
        rules = [(0, [1, "a"]), (1, [1, 1]), (1, []), (2, ["a", 2]), (2, [])]
        told = ask_of(3, rules, ways(1, ""), ways(0, "a"), ways(0, ""), ways(2, "aa"), ways(2, ""))
        self.assertEqual(told, [[1], [1], [0, 0], [0, 1], [0, 1]])

    def test_cycle_over_the_empty_piece_alone(self):
        # Over the empty piece 0 stands beneath itself; over bytes too, since it may be beside an empty one.
        rules = [(0, [0, 0]), (0, []), (0, ["a"])]
        self.assertEqual(ask_of(1, rules, ways(0, ""), ways(0, "a"), ways(0, "b")), [[1], [1], [0, 0]])

    def test_hollow_beside_a_range_is_no_cycle(self):
        rules = [(0, [0, "a"]), (0, [])]
        self.assertEqual(ask_of(1, rules, ways(0, ""), ways(0, "a" * 24)), [[0, 1], [0, 1]])

    def test_cycle_beneath_no_tree_of_the_whole(self):
        # 1 covers a in infinitely many ways, but is in no tree of 0 over ab, nor over b.
        rules = [(0, [1, "c"]), (0, ["a", "b"]), (0, ["b"]), (1, [1]), (1, ["a"])]
        told = ask_of(2, rules, ways(0, "ab"), ways(0, "b"), ways(0, "ac"), ways(1, "a"))
        self.assertEqual(told, [[0, 1], [0, 1], [1], [1]])

    def test_empty_cycle_beneath_no_tree_of_the_whole(self):
        rules = [(0, [1, 2]), (0, ["a"]), (1, [1]), (1, []), (2, [2])]
        self.assertEqual(ask_of(3, rules, ways(0, "a"), ways(0, ""), ways(1, "")), [[0, 1], [0, 0], [1]])

    def test_just_below_most(self):
        nonterminals, rules = nines()
        self.assertEqual(ask_of(nonterminals, rules, ways(0, "")), [[0, MOST - 1]])
        self.assertEqual(ask_of(nonterminals, rules + [(0, [])], ways(0, "")), [[0, MOST]])
        self.assertEqual(ask_of(nonterminals, rules + [(0, [])] * 2, ways(0, "")), [[0, MOST]])

    def test_just_below_most_with_bytes(self):
        nonterminals, rules = nines()
        rules = [(head, symbols + ["a"] if head == 0 else symbols) for head, symbols in rules]
        self.assertEqual(ask_of(nonterminals, rules, ways(0, "a")), [[0, MOST - 1]])
        self.assertEqual(ask_of(nonterminals, rules + [(0, ["a"])], ways(0, "a")), [[0, MOST]])
        self.assertEqual(ask_of(nonterminals, rules + [(0, [0])], ways(0, "a")), [[1]])

    def test_far_more_than_most(self):
        rules = [(head, [head + 1] * 8) for head in range(19)] + [(19, []), (19, [])]
        told = ask_of(20, rules, ways(0, ""), ways(18, ""), ways(17, ""), ways(16, ""))
        self.assertEqual(told, [[0, MOST], [0, 2 ** 8], [0, 2 ** 64], [0, MOST]])

    def test_far_more_than_most_over_bytes(self):
        rules = [(head, [head + 1] * 8) for head in range(19)] + [(19, []), (19, []), (19, ["a"])]
        self.assertEqual(ask_of(20, rules, ways(0, "a" * 24), ways(0, "b"), ways(19, "a")), [[0, MOST], [0, 0], [0, 1]])

    def test_most_beside_nothing_and_beside_infinitely_many(self):
        rules = [(0, [2, 1]), (1, ["x"]), (2, [3] * 8), (3, [4] * 8), (4, [5] * 8), (5, []), (5, []),
                 (6, [2, 7]), (7, [7]), (7, [])]
        told = ask_of(8, rules, ways(0, ""), ways(0, "x"), ways(2, ""), ways(6, ""))
        self.assertEqual(told, [[0, 0], [0, MOST], [0, MOST], [1]])

    def test_longest_text(self):
        rules = [(0, ["a", 0, "b"]), (0, ["b", 0, "a"]), (0, [])]
        told = ask_of(1, rules, ways(0, "ab" * 12), ways(0, "a" * 12 + "b" * 12), ways(0, "a" * 24),
                      ways(0, "a" * 25))
        self.assertEqual(told, [[0, 1], [0, 1], [0, 0], [-3]])

    def test_eight_symbols_parted_in_many_ways(self):
        # 8 pieces of one byte or more make up 24 bytes in 23 over 7 ways.
        rules = [(0, [1] * 8), (1, ["a", 1]), (1, ["a"])]
        self.assertEqual(ask_of(2, rules, ways(0, "a" * 24), ways(0, "a" * 8), ways(0, "a" * 7)),
                         [[0, 245157], [0, 1], [0, 0]])

    def test_bytes_of_no_class(self):
        rules = [(0, [(10, 20), (30, 40)])]
        told = ask_of(1, rules, ways(0, [10, 30]), ways(0, [20, 40]), ways(0, [10, 25]), ways(0, [9, 30]),
                      ways(0, [21, 30]), ways(0, [0, 255]), ways(0, [30, 10]))
        self.assertEqual(told, [[0, 1], [0, 1], [0, 0], [0, 0], [0, 0], [0, 0], [0, 0]])

    def test_many_texts_on_one_grammar(self):
        # More pieces than are remembered at a time.
        texts = ["".join("ab"[(k * (i + 3) + k * k // (i + 1)) % 2] for k in range(24)) for i in range(58)]
        rules = [(0, ["a", 0]), (0, ["b", 0]), (0, []), (0, ["a", "b", 0])]
        told = ask(load(1, rules), *[ways(0, text) for text in texts])
        self.assertEqual(told[1:], [[0, 2 ** text.count("ab")] for text in texts])

    def test_long_chain_of_nonterminals(self):
        rules = [(head, [head + 1]) for head in range(19)] + [(19, ["a"]), (19, ["a"])]
        self.assertEqual(ask_of(20, rules, ways(0, "a"), ways(0, "")), [[0, 2], [0, 0]])
        self.assertEqual(ask_of(20, rules + [(19, [0])], ways(7, "a"), ways(0, "")), [[1], [0, 0]])


if __name__ == "__main__":
    unittest.main()
