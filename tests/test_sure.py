"""Point 11: sure."""

import unittest

from lines import ask, ask_of, load, search, sure

LETTERS = [(byte, byte) for byte in range(256)]


def sure_of(nonterminals, rules):
    return ask_of(nonterminals, rules, sure())[0]


def branches(sizes):
    """Rules without a common letter: their states are two more than they have symbols."""
    rules = []
    used = 0
    for size in sizes:
        rules.append((0, LETTERS[used:used + size]))
        used += size
    return rules


class Sure(unittest.TestCase):
    def test_new_object(self):
        self.assertEqual(ask(sure()), [[0, 1]])

    def test_sums_and_products(self):
        rules = [(0, [0, "+", 1]), (0, [1]), (1, [1, "*", 2]), (1, [2]), (2, ["(", 0, ")"]), (2, ["i"])]
        self.assertEqual(sure_of(3, rules), [0, 1])
        self.assertEqual(sure_of(1, [(0, [0, "+", 0]), (0, ["i"])]), [0, 0])

    def test_more_context_than_follow_tells(self):
        # One tree for each text, and yet a conflict: = follows 2 elsewhere.
        rules = [(0, [1, "=", 2]), (0, [2]), (1, ["*", 2]), (1, ["i"]), (2, [1])]
        self.assertEqual(sure_of(3, rules), [0, 0])

    def test_hanging_else(self):
        rules = [(0, ["i", 0]), (0, ["i", 0, "e", 0]), (0, ["x"])]
        self.assertEqual(sure_of(1, rules), [0, 0])

    def test_two_whole_rules(self):
        self.assertEqual(sure_of(1, [(0, ["a"]), (0, ["a"])]), [0, 0])
        self.assertEqual(sure_of(3, [(0, [1, "x"]), (0, [2, "y"]), (1, ["a"]), (2, ["a"])]), [0, 1])
        self.assertEqual(sure_of(3, [(0, [1, "x"]), (0, [2, (120, 121)]), (1, ["a"]), (2, ["a"])]), [0, 0])

    def test_whole_rule_and_accepting(self):
        self.assertEqual(sure_of(1, [(0, [0]), (0, ["a"])]), [0, 0])

    def test_moving_on_and_a_whole_rule_by_classes_that_overlap(self):
        rules = [(0, [1, (10, 20)]), (1, []), (1, [(20, 30)])]
        self.assertEqual(sure_of(2, rules), [0, 0])
        self.assertEqual(sure_of(2, [(0, [1, (10, 20)]), (1, []), (1, [(21, 30)])]), [0, 1])

    def test_empty_rules(self):
        self.assertEqual(sure_of(1, [(0, []), (0, ["a", 0])]), [0, 1])
        self.assertEqual(sure_of(1, [(0, []), (0, [])]), [0, 0])
        self.assertEqual(sure_of(3, [(0, [1, 2]), (1, []), (1, ["a"]), (2, []), (2, ["b"])]), [0, 1])
        self.assertEqual(sure_of(3, [(0, [1, 2]), (1, []), (1, ["a"]), (2, []), (2, ["a"])]), [0, 0])

    def test_what_follows_comes_through_hollow_nonterminals(self):
        # c follows 1, since 2 is hollow: at c both empty rules of 1 may be put together.
        self.assertEqual(sure_of(3, [(0, [1, 2, "c"]), (1, []), (1, ["c"]), (2, []), (2, ["d"])]), [0, 0])
        self.assertEqual(sure_of(3, [(0, [1, 2, "c"]), (1, []), (1, ["c"]), (2, ["d"])]), [0, 1])

    def test_first_bytes_come_through_a_chain(self):
        # a follows 4, since 1 begins as 2 does, and 2 as 3.
        rules = [(0, [4, 1]), (1, [2]), (2, [3]), (4, []), (4, ["a"])]
        self.assertEqual(sure_of(5, rules + [(3, ["a"])]), [0, 0])
        self.assertEqual(sure_of(5, rules + [(3, ["b"])]), [0, 1])

    def test_what_follows_is_handed_on(self):
        # What follows 0 within brackets follows 1, and through it 2.
        rules = [(0, ["(", 0, ")"]), (0, ["x", 1]), (1, ["y", 2]), (2, ["a"]), (2, ["b"])]
        self.assertEqual(sure_of(3, rules), [0, 1])
        self.assertEqual(sure_of(3, rules + [(2, [])]), [0, 1])
        self.assertEqual(sure_of(3, rules + [(2, []), (2, [")"])]), [0, 0])

    def test_nothing_follows_what_is_not_useful(self):
        # 1 covers no piece, so its rules' symbols and the rules with it hand nothing on.
        self.assertEqual(sure_of(3, [(0, ["x"]), (0, [2, 1, "a"]), (1, [1, "a"]), (2, []), (2, [])]), [0, 1])
        self.assertEqual(sure_of(3, [(0, ["x"]), (0, [2, 1, "a"]), (1, ["a"]), (2, []), (2, [])]), [0, 0])

    def test_rules_of_what_is_not_productive_give_no_first_bytes(self):
        # 3 begins with a only by a rule that covers nothing: so a doesn't follow 2.
        rules = [(0, [2, 3]), (2, []), (2, ["a"]), (3, ["b"]), (3, ["a", 1]), (1, [1])]
        self.assertEqual(sure_of(4, rules), [0, 1])
        self.assertEqual(sure_of(4, rules + [(1, [])]), [0, 0])

    def test_no_end_without_a_productive_start(self):
        rules = [(0, [1, 0]), (1, ["a"]), (1, ["a"])]
        self.assertEqual(sure_of(2, rules), [0, 1])
        self.assertEqual(sure_of(2, rules + [(0, ["b"])]), [0, 0])
        self.assertEqual(sure_of(1, [(0, [0]), (0, [0])]), [0, 1])
        self.assertEqual(sure_of(1, [(0, [0]), (0, [])]), [0, 0])

    def test_useless_rules_make_states_all_the_same(self):
        rules = branches([8] * 15 + [6])
        self.assertEqual(sure_of(2, rules), [0, 1])
        self.assertEqual(sure_of(2, rules + [(0, [1, 1])]), [-11])

    def test_number_of_states(self):
        self.assertEqual(sure_of(1, branches([8] * 15 + [6])), [0, 1])
        self.assertEqual(sure_of(1, branches([8] * 15 + [6]) + [(0, [(0, 0)] + LETTERS[1:8])]), [0, 0])
        self.assertEqual(sure_of(1, branches([8] * 15 + [7])), [-11])
        self.assertEqual(sure_of(1, branches([8] * 31)), [-11])

    def test_refusal_leaves_the_grammar(self):
        told = ask(load(1, branches([8] * 31)), sure(), search(0, 1, 300), sure())
        self.assertEqual(told, [[0], [-11], [0, 249], [-11]])

    def test_classes_and_not_bytes_are_moved_over(self):
        # Wide ranges make one state each, not one for each byte.
        self.assertEqual(sure_of(1, [(0, [(0, 255)] * 8)]), [0, 1])
        self.assertEqual(sure_of(1, [(0, [(0, 200), "a"]), (0, [(100, 255), "b"])]), [0, 1])

    def test_a_long_chain(self):
        rules = [(head, [head + 1, "a"]) for head in range(19)] + [(19, ["b"])]
        self.assertEqual(sure_of(20, rules), [0, 1])


if __name__ == "__main__":
    unittest.main()
