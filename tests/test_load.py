"""Point 1: load."""

import unittest

from lines import FAR, ask, grammar_row, load, load_row, signs, ways

HELD = [(0, ["h"]), (0, ["h"])]


def refused(row):
    """What load answers to a row; after a refusal the grammar held before must still be held."""
    told = ask(load(1, HELD), load_row(row), signs(), ways(0, "h"))
    if told[1] != [0] and told[2:] != [[0, 1, ord("h")], [0, 2]]:
        raise AssertionError("a refused row changed what is held")
    return told[1]


class GrammarRows(unittest.TestCase):
    def test_rows_that_are_held(self):
        for row in (
            [1, 0],
            [20, 0],
            [1, 1, 0, 0],
            [1, 1, 0, 1, 0, 0],
            [1, 1, 0, 1, 1, 0, 255],
            [1, 1, 0, 1, 1, 7, 7],
            [2, 2, 1, 2, 0, 1, 0, 0, 0, 1, 1, 0, 0],
            [20, 1, 19, 1, 0, 19],
            grammar_row(1, [(0, ["a"] * 8)] * 60),
            grammar_row(20, [(19, [(0, 255)] * 8)] * 60),
        ):
            self.assertEqual(refused(row), [0], row)

    def test_too_short(self):
        whole = grammar_row(2, [(1, ["a", 1]), (0, [])])
        for size in range(len(whole)):
            self.assertEqual(refused(whole[:size]), [-2], whole[:size])

    def test_too_long(self):
        self.assertEqual(refused([1, 0, 0]), [-2])
        self.assertEqual(refused(grammar_row(2, [(1, ["a", 1]), (0, [])]) + [0]), [-2])
        self.assertEqual(refused([1, 0] + [0] * 1998), [-2])

    def test_counts_of_nonterminals_and_rules(self):
        self.assertEqual(refused([0, 0]), [-2])
        self.assertEqual(refused([21, 0]), [-2])
        self.assertEqual(refused([FAR, 0]), [-2])
        self.assertEqual(refused(grammar_row(1, [(0, [])] * 60)), [0])
        self.assertEqual(refused(grammar_row(1, [(0, [])] * 61)), [-2])
        self.assertEqual(refused([1, FAR]), [-2])

    def test_nonterminals_out_of_bounds(self):
        self.assertEqual(refused(grammar_row(2, [(2, [])])), [-2])
        self.assertEqual(refused(grammar_row(2, [(1, [])])), [0])
        self.assertEqual(refused(grammar_row(2, [(0, [2])])), [-2])
        self.assertEqual(refused(grammar_row(2, [(0, [1])])), [0])
        self.assertEqual(refused([1, 1, FAR, 0]), [-2])
        self.assertEqual(refused([1, 1, 0, 1, 0, FAR]), [-2])

    def test_counts_of_symbols(self):
        self.assertEqual(refused(grammar_row(1, [(0, ["a"] * 8)])), [0])
        self.assertEqual(refused(grammar_row(1, [(0, ["a"] * 9)])), [-2])
        self.assertEqual(refused(grammar_row(1, [(0, [0] * 9)])), [-2])
        self.assertEqual(refused([1, 1, 0, FAR]), [-2])

    def test_ranges(self):
        self.assertEqual(refused(grammar_row(1, [(0, [(5, 4)])])), [-2])
        self.assertEqual(refused(grammar_row(1, [(0, [(5, 5)])])), [0])
        self.assertEqual(refused(grammar_row(1, [(0, [(0, 256)])])), [-2])
        self.assertEqual(refused(grammar_row(1, [(0, [(256, 256)])])), [-2])
        self.assertEqual(refused(grammar_row(1, [(0, [(FAR, FAR)])])), [-2])
        self.assertEqual(refused(grammar_row(1, [(0, [(255, 255)])])), [0])

    def test_symbols_of_no_kind(self):
        self.assertEqual(refused([1, 1, 0, 1, 2, 0]), [-2])
        self.assertEqual(refused([1, 1, 0, 1, 2, 0, 0]), [-2])
        self.assertEqual(refused([1, 1, 0, 1, FAR, 0, 0]), [-2])

    def test_numbers_below_zero_come_first(self):
        whole = grammar_row(2, [(1, ["a", 1]), (0, [])])
        for at in range(len(whole)):
            for number in (-1, -FAR):
                self.assertEqual(refused(whole[:at] + [number] + whole[at + 1:]), [-1])
        self.assertEqual(refused([-1]), [-1])
        self.assertEqual(refused([FAR, -1]), [-1])
        self.assertEqual(refused(whole + [-1]), [-1])
        self.assertEqual(refused([0] * 1999 + [-1]), [-1])

    def test_rules_that_are_the_same_count_each(self):
        self.assertEqual(ask(load(1, [(0, ["a"])] * 3), ways(0, "a"))[1], [0, 3])

    def test_the_new_object(self):
        told = ask(signs(), ways(0, ""), ways(0, "a"), ways(1, ""), load(2, []), ways(1, ""))
        self.assertEqual(told, [[0, 0], [0, 0], [0, 0], [-4], [0], [0, 0]])

    def test_a_later_grammar_takes_the_place(self):
        told = ask(load(2, [(1, ["a"])]), ways(1, "a"), load(1, [(0, ["b"])]), ways(1, "a"), ways(0, "a"),
                   ways(0, "b"), signs())
        self.assertEqual(told, [[0], [0, 1], [0], [-4], [0, 0], [0, 1], [0, 1, 98]])


if __name__ == "__main__":
    unittest.main()
