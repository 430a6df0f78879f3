"""Point 7: core."""

import unittest
from unittest import mock

from lines import ask, ask_of, core, load, ways

TWICE = [(0, [0, 0]), (0, ["a"])]


def core_of(nonterminals, rules, a, text):
    return ask_of(nonterminals, rules, core(a, text))[0]


def alternative(rule, *kids):
    return [rule, len(kids)] + [number for kid in kids for number in kid]


def told(kind, node, first, second):
    return [1, kind] + list(node) + first + second


def towers(height, more=()):
    """Each byte is read through a tower of nonterminals: so many nodes for each of its bytes, and one at the end."""
    rules = [(head, [head + 1]) for head in range(height - 1)] + [(height - 1, ["a", 0]), (0, [])]
    return (height, rules + list(more))


def crowds(size, ends):
    """For each byte as many alternatives as size tells and one more, and at the end as many as ends tells."""
    return [(0, [1, 0])] + [(1, ["a"])] * size + [(0, [])] * ends


class NoCore(unittest.TestCase):
    def test_not_covered(self):
        answers = ask_of(2, TWICE, core(0, ""), core(0, "b"), core(0, "ab"), core(1, "a"), core(0, [0]), core(0, [255]))
        self.assertEqual(answers, [[-8]] * 6)

    def test_grammar_without_rules(self):
        self.assertEqual(ask(core(0, ""), core(0, "a"), load(3, []), core(2, ""), core(2, "a")),
                         [[-8], [-8], [0], [-8], [-8]])

    def test_covered_only_in_part(self):
        self.assertEqual(core_of(1, [(0, ["a"]), (0, ["a"])], 0, "aa"), [-8])

    def test_one_way(self):
        rules = [(0, ["a", 0]), (0, [])]
        self.assertEqual(ask_of(1, rules, core(0, ""), core(0, "a"), core(0, "a" * 24)), [[0]] * 3)
        self.assertEqual(ask_of(1, TWICE, core(0, "a"), core(0, "aa")), [[0], [0]])

    def test_several_ways_elsewhere(self):
        # 1 covers b in two ways and c in infinitely many, but is in no tree of 0 over ab or c.
        rules = [(0, ["a", 2]), (0, [1, "x"]), (0, ["c"]), (1, ["b"]), (1, ["b"]), (2, ["b"]), (1, ["c"]), (1, [1])]
        answers = ask_of(3, rules, core(0, "ab"), core(0, "c"), core(1, "b"), core(0, "bx"))
        self.assertEqual(answers[:2], [[0], [0]])
        self.assertEqual([answer[0] for answer in answers[2:]], [1, 1])


class Kinds(unittest.TestCase):
    def test_two_rules(self):
        rules = [(0, [1]), (0, ["a"]), (1, ["a"])]
        self.assertEqual(core_of(2, rules, 0, "a"), told(1, (0, 0, 1), alternative(0, (1, 0, 1)), alternative(1)))

    def test_two_rules_that_are_written_alike(self):
        rules = [(1, ["b"]), (0, ["a"]), (0, ["c"]), (0, ["a"]), (0, ["a"])]
        self.assertEqual(core_of(2, rules, 0, "a"), told(1, (0, 0, 1), alternative(1), alternative(3)))

    def test_one_rule(self):
        self.assertEqual(core_of(1, TWICE, 0, "aaa"), told(
            2, (0, 0, 3), alternative(0, (0, 0, 1), (0, 1, 3)), alternative(0, (0, 0, 2), (0, 2, 3))))

    def test_one_rule_comes_first_where_it_covers_twice(self):
        rules = [(0, ["x"]), (0, [1, 1]), (0, [2]), (1, []), (1, ["a"]), (2, ["a"])]
        self.assertEqual(core_of(3, rules, 0, "a"), told(
            2, (0, 0, 1), alternative(1, (1, 0, 0), (1, 0, 1)), alternative(1, (1, 0, 1), (1, 1, 1))))

    def test_rules_in_the_order_of_their_numbers(self):
        rules = [(0, [2]), (1, ["b"]), (0, [1, 1]), (1, []), (1, ["a"]), (2, ["a"])]
        self.assertEqual(core_of(3, rules, 0, "a"), told(
            1, (0, 0, 1), alternative(0, (2, 0, 1)), alternative(2, (1, 0, 0), (1, 0, 1))))


class Alternatives(unittest.TestCase):
    def test_order_by_the_first_kid_that_differs(self):
        rules = [(0, [1, 1, 1]), (1, ["a"]), (1, ["a", "a"]), (1, ["a", "a", "a"])]
        self.assertEqual(core_of(2, rules, 0, "aaaa"), told(
            2, (0, 0, 4), alternative(0, (1, 0, 1), (1, 1, 2), (1, 2, 4)),
            alternative(0, (1, 0, 1), (1, 1, 3), (1, 3, 4))))
        rules = [(0, [1, 2, 2]), (1, ["a", "a"]), (1, ["a"]), (2, ["a"]), (2, [])]
        self.assertEqual(core_of(3, rules, 0, "aa"), told(
            2, (0, 0, 2), alternative(0, (1, 0, 1), (2, 1, 1), (2, 1, 2)),
            alternative(0, (1, 0, 1), (2, 1, 2), (2, 2, 2))))

    def test_ranges_are_no_kids(self):
        rules = [(0, [1, "a", (97, 98), 1, "c", 1]), (1, []), (1, [(97, 99)])]
        self.assertEqual(core_of(2, rules, 0, "aaaac"), [0])
        self.assertEqual(core_of(2, rules, 0, "aaac"), told(
            2, (0, 0, 4), alternative(0, (1, 0, 0), (1, 2, 3), (1, 4, 4)),
            alternative(0, (1, 0, 1), (1, 3, 3), (1, 4, 4))))

    def test_no_kids(self):
        rules = [(0, ["a", (90, 99)]), (0, [(97, 98), "b"])]
        self.assertEqual(core_of(1, rules, 0, "ab"), told(1, (0, 0, 2), alternative(0), alternative(1)))

    def test_eight_kids(self):
        rules = [(0, [1] * 8), (1, []), (1, ["a"])]
        first = [(1, 0, 0)] * 7 + [(1, 0, 1)]
        second = [(1, 0, 0)] * 6 + [(1, 0, 1), (1, 1, 1)]
        self.assertEqual(core_of(2, rules, 0, "a"), told(2, (0, 0, 1), alternative(0, *first), alternative(0, *second)))

    def test_alternatives_of_kids_do_not_count_for_the_node(self):
        # The root has one alternative though it has two trees.
        rules = [(0, ["x", 1]), (1, ["a"]), (1, [2]), (2, ["a"])]
        self.assertEqual(core_of(3, rules, 0, "xa"), told(1, (1, 1, 2), alternative(1), alternative(2, (2, 1, 2))))


class Places(unittest.TestCase):
    def test_shortest_piece(self):
        rules = [(0, [1, 1]), (0, [2, "c"]), (1, ["a", "a"]), (1, [3]), (3, ["a", "a"]), (1, ["b"]), (1, [4])]
        rules += [(4, ["b"])]
        self.assertEqual(core_of(5, rules, 0, "aab"), told(1, (1, 2, 3), alternative(5), alternative(6, (4, 2, 3))))

    def test_shortest_before_smallest_nonterminal(self):
        rules = [(0, [0, 0]), (0, ["a"]), (0, [1]), (1, ["b"]), (1, ["b"])]
        self.assertEqual(core_of(2, rules, 0, "aaab"), told(1, (1, 3, 4), alternative(3), alternative(4)))

    def test_smallest_from(self):
        rules = [(0, [2, 1]), (1, ["a"]), (1, ["a"]), (2, ["a"]), (2, ["a"])]
        self.assertEqual(core_of(3, rules, 0, "aa"), told(1, (2, 0, 1), alternative(3), alternative(4)))

    def test_smallest_nonterminal(self):
        rules = [(3, [2]), (2, [1]), (2, ["a"]), (1, [0]), (1, ["a"]), (0, ["a"]), (3, ["a"])]
        self.assertEqual(core_of(4, rules, 3, "a"), told(1, (1, 0, 1), alternative(3, (0, 0, 1)), alternative(4)))

    def test_empty_pieces(self):
        rules = [(0, ["a", 1, "b", 2]), (1, []), (2, []), (2, [1])]
        self.assertEqual(core_of(3, rules, 0, "ab"), told(1, (2, 2, 2), alternative(2), alternative(3, (1, 2, 2))))

    def test_empty_pieces_at_several_places(self):
        rules = [(0, ["a", 1, "b", 1]), (1, []), (1, [])]
        self.assertEqual(core_of(2, rules, 0, "ab"), told(1, (1, 1, 1), alternative(1), alternative(2)))

    def test_empty_text(self):
        rules = [(0, [1, 1]), (1, []), (1, [2]), (2, [])]
        answers = ask_of(3, rules, core(0, ""), core(1, ""), core(2, ""))
        here = told(1, (1, 0, 0), alternative(1), alternative(2, (2, 0, 0)))
        self.assertEqual(answers, [here, here, [0]])

    def test_other_nonterminals(self):
        rules = [(0, ["a"]), (1, [0, 0]), (1, [2]), (2, [0, "a"])]
        answers = ask_of(3, rules, core(0, "a"), core(1, "aa"), core(2, "aa"))
        self.assertEqual(answers, [[0], told(1, (1, 0, 2), alternative(1, (0, 0, 1), (0, 1, 2)), alternative(
            2, (2, 0, 2))), [0]])

    def test_every_byte_of_a_class(self):
        rules = [(0, [(10, 20)]), (0, [(15, 30)])]
        answers = ask_of(1, rules, *[core(0, [byte]) for byte in (9, 10, 14, 15, 17, 20, 21, 30, 31)])
        both = told(1, (0, 0, 1), alternative(0), alternative(1))
        self.assertEqual(answers, [[-8], [0], [0], both, both, both, [0], [0], [-8]])


class Infinite(unittest.TestCase):
    def test_over_a_byte(self):
        rules = [(0, [0]), (0, ["a"])]
        here = told(1, (0, 0, 1), alternative(0, (0, 0, 1)), alternative(1))
        self.assertEqual(ask_of(1, rules, core(0, "a"), core(0, "")), [here, [-8]])

    def test_over_the_empty_piece(self):
        rules = [(0, ["a", 1]), (1, [2]), (2, [1]), (2, [])]
        here = told(1, (2, 1, 1), alternative(2, (1, 1, 1)), alternative(3))
        self.assertEqual(ask_of(3, rules, ways(0, "a"), core(0, "a")), [[1], here])

    def test_a_node_that_is_its_own_kid_twice(self):
        rules = [(0, [0, 0]), (0, [])]
        self.assertEqual(core_of(1, rules, 0, ""), told(
            1, (0, 0, 0), alternative(0, (0, 0, 0), (0, 0, 0)), alternative(1)))

    def test_beside_empty_pieces(self):
        rules = [(0, [1, 0, 1]), (0, ["a"]), (1, [])]
        self.assertEqual(core_of(2, rules, 0, "a"), told(
            1, (0, 0, 1), alternative(0, (1, 0, 0), (0, 0, 1), (1, 1, 1)), alternative(1)))

    def test_what_only_leads_round_covers_nothing(self):
        self.assertEqual(ask_of(2, [(0, [1]), (1, [0])], core(0, ""), core(1, "")), [[-8], [-8]])


class TooGreat(unittest.TestCase):
    def test_nodes_in_one_way(self):
        # 15 bytes times 17 nodes and one make 256; 16 times 16 and one make 257.
        self.assertEqual(core_of(*towers(17), 0, "a" * 15), [0])
        self.assertEqual(core_of(*towers(16), 0, "a" * 16), [-9])
        self.assertEqual(core_of(*towers(17), 0, "a" * 24), [-9])
        self.assertEqual(core_of(*towers(10), 0, "a" * 24), [0])

    def test_nodes_in_several_ways(self):
        more = [(0, [])]
        end = told(1, (0, 15, 15), alternative(17), alternative(18))
        self.assertEqual(core_of(*towers(17, more), 0, "a" * 15), end)
        self.assertEqual(core_of(*towers(16, more), 0, "a" * 16), [-9])

    def test_alternatives(self):
        # 10 bytes times 51 alternatives make 510, and those at the end.
        self.assertEqual(core_of(2, crowds(50, 2), 0, "a" * 10),
                         told(1, (0, 10, 10), alternative(51), alternative(52)))
        self.assertEqual(core_of(2, crowds(50, 3), 0, "a" * 10), [-9])
        self.assertEqual(core_of(2, crowds(50, 1), 0, "a" * 10), told(1, (1, 0, 1), alternative(1), alternative(2)))
        self.assertEqual(core_of(2, crowds(50, 1), 0, "a" * 11), [-9])

    def test_alternatives_of_one_rule(self):
        # 8 kids over 4 bytes: 330 alternatives; over 5 bytes 792.
        rules = [(0, [1] * 8), (1, ["a", 1]), (1, [])]
        answers = ask_of(2, rules, core(0, "a" * 4), core(0, "a" * 5), core(0, "a" * 24), core(1, "a" * 24))
        first = [(1, 0, 0)] * 7 + [(1, 0, 4)]
        second = [(1, 0, 0)] * 6 + [(1, 0, 1), (1, 1, 4)]
        here = told(2, (0, 0, 4), alternative(0, *first), alternative(0, *second))
        self.assertEqual(answers, [here, [-9], [-9], [0]])

    def test_alternatives_of_two_rules(self):
        # 330 of each of two rules: none is too great by itself.
        rules = [(0, [1] * 8), (1, ["a", 1]), (1, [])]
        self.assertEqual(core_of(2, rules + [(0, [1] * 8)], 0, "a" * 4), [-9])

    def test_not_covered_comes_before(self):
        rules = [(0, [1] * 8), (1, ["a", 1]), (1, [])]
        self.assertEqual(core_of(2, rules, 0, "a" * 23 + "b"), [-8])

    def test_nodes_of_no_tree_do_not_count(self):
        # 2 would make a text of 24 bytes too great, but stands in no tree of 0.
        rules = [(0, ["a", 0]), (0, []), (0, [2, "b"]), (2, [3] * 8), (3, ["a", 3]), (3, [])]
        self.assertEqual(ask_of(4, rules, core(0, "a" * 24), core(2, "a" * 24)), [[0], [-9]])

    def test_pieces_at_several_places_are_several_nodes(self):
        # Each empty piece is a node of its own: 11 nodes for each byte, and one at the end, are 254 and 265.
        rules = [(0, ["a", 1, 0]), (0, [])] + [(head, [head + 1]) for head in range(1, 10)] + [(10, [])]
        self.assertEqual(core_of(11, rules, 0, "a" * 23), [0])
        self.assertEqual(core_of(11, rules, 0, "a" * 24), [-9])

    def test_refusal_leaves_the_grammar(self):
        rules = [(0, [1] * 8), (1, ["a", 1]), (1, [])]
        answers = ask_of(2, rules, core(0, "a" * 24), ways(0, "a" * 2), core(0, "b"), ways(1, "aa"), core(1, "aa"))
        self.assertEqual(answers, [[-9], [0, 36], [-8], [0, 1], [0]])


class Great(unittest.TestCase):
    def test_far_more_than_most_ways(self):
        rules = [(head, [head + 1] * 8) for head in range(19)] + [(19, []), (19, [])]
        self.assertEqual(core_of(20, rules, 0, ""), told(1, (19, 0, 0), alternative(19), alternative(20)))

    def test_longest_text(self):
        rules = [(0, ["a", 0]), (0, ["a", "b"]), (0, [1]), (1, ["a", "b"])]
        self.assertEqual(core_of(2, rules, 0, "a" * 23 + "b"),
                         told(1, (0, 22, 24), alternative(1), alternative(2, (1, 22, 24))))

    def test_deepest_chain(self):
        rules = [(head, [head + 1]) for head in range(19)] + [(19, ["a"]), (19, ["b"]), (19, ["a"])]
        self.assertEqual(core_of(20, rules, 0, "a"), told(1, (19, 0, 1), alternative(19), alternative(21)))

    def test_many_texts_on_one_grammar(self):
        texts = ["".join("ab"[(k * (i + 3) + k * k // (i + 1)) % 2] for k in range(24)) for i in range(58)]
        rules = [(0, ["a", 0]), (0, ["b", 0]), (0, []), (0, ["a", "b", 0])]
        expected = []
        for text in texts:
            at = text.rfind("ab")
            here = told(1, (0, at, 24), alternative(0, (0, at + 1, 24)), alternative(3, (0, at + 2, 24)))
            expected.append(here if at >= 0 else [0])
        # What is remembered of pieces is forgotten now and then, which must not show.
        for remembered in (0, 100, 40000):
            with mock.patch("twotrees.forests.MOST_SIZES", remembered):
                with mock.patch("twotrees.counts.MOST_PIECES", remembered):
                    self.assertEqual(ask(load(1, rules), *[core(0, text) for text in texts])[1:], expected)


if __name__ == "__main__":
    unittest.main()
