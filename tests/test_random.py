"""Small grammars made by chance, the same each time, held against what oracle.py works out from the words."""

import random
import unittest

import oracle
from lines import ask_of, core, odds, search, search_behind, signs, sure, tally, ways, widest

ALPHABETS = (["a"], ["a", "b"], ["a", "b", (97, 98)], ["a", (98, 99), (97, 98)], [(0, 255), "a"],
             [(0, 10), (5, 20), (21, 255)])


def some_grammar(chance):
    nonterminals = chance.randint(1, 4)
    letters = chance.choice(ALPHABETS)
    part = chance.random()
    rules = []
    for number in range(chance.randint(0, 8)):
        size = chance.choice([0, 1, 1, 2, 2, 3, 4])
        symbols = [chance.randrange(nonterminals) if chance.random() < part else chance.choice(letters)
                   for place in range(size)]
        rules.append((chance.choice([0, chance.randrange(nonterminals)]), symbols))
    return nonterminals, rules


class Chance(unittest.TestCase):
    def test_against_the_words(self):
        for seed in range(800):
            chance = random.Random(seed)
            nonterminals, rules = some_grammar(chance)
            found = oracle.signs_of(rules)
            calls = [signs(), sure()]
            expected = [[0, len(found)] + found, oracle.sure_of(rules)]
            for number in range(4):
                a = chance.randrange(nonterminals)
                text = [chance.choice((found or [97]) * 3 + [0, 98]) for place in range(chance.randint(0, 5))]
                calls.append(ways(a, text))
                expected.append(oracle.ways_of(nonterminals, rules, a, text))
                calls.append(core(a, text))
                expected.append(oracle.core_of(nonterminals, rules, a, text))
            a = chance.randrange(nonterminals)
            most = chance.randint(0, 3)
            tries = chance.randint(0, 40)
            text = [chance.choice(found) for place in range(chance.randint(0, 4))] if found else []
            calls += [search(a, most, tries), search_behind(a, most, tries, text)]
            expected.append(oracle.search_of(nonterminals, rules, a, most, tries))
            expected.append(oracle.search_of(nonterminals, rules, a, most, tries, text))
            calls += [tally(a, most), widest(a, most), odds(a, most)]
            expected += oracle.surveys_of(nonterminals, rules, a, most)
            self.assertEqual(ask_of(nonterminals, rules, *calls), expected, (seed, nonterminals, rules))

    def test_cores_of_longer_texts(self):
        # Long enough that some texts are too great, by their nodes or by their alternatives.
        seen = set()
        for seed in range(5000, 5120):
            chance = random.Random(seed)
            nonterminals, rules = some_grammar(chance)
            rules = [(head, symbols[:3]) for head, symbols in rules]
            found = oracle.signs_of(rules) or [97]
            text = [chance.choice(found) for place in range(chance.randint(6, 16))]
            told = ask_of(nonterminals, rules, core(0, text))[0]
            self.assertEqual(told, oracle.core_of(nonterminals, rules, 0, text), (seed, nonterminals, rules, text))
            seen.add(tuple(told[:2]))
        self.assertEqual(seen, {(-8,), (-9,), (0,), (1, 1), (1, 2)})

    def test_trees_one_by_one(self):
        # The nodes and the ways that the oracle works out are those of the trees, told one by one.
        listed = 0
        for seed in range(300):
            chance = random.Random(seed)
            nonterminals, rules = some_grammar(chance)
            text = [chance.choice(oracle.signs_of(rules) or [97]) for place in range(chance.randint(0, 4))]
            number = ask_of(nonterminals, rules, ways(0, text))[0]
            if number[0] == 0 and 0 < number[1] < 100:
                forest = oracle.Forest(nonterminals, rules, text)
                root = (0, 0, len(text))
                trees = forest.listed_trees(root)
                self.assertEqual(len({tuple(tree) for tree in trees}), number[1])
                nodes = {(rules[rule][0], i, j) for tree in trees for rule, i, j in tree}
                self.assertEqual(nodes, set(forest.below(root)))
                listed += 1
        self.assertGreater(listed, 40)

    def test_sure_is_right(self):
        for seed in range(1000, 3000):
            nonterminals, rules = some_grammar(random.Random(seed))
            told = ask_of(nonterminals, rules, sure(), search(0, 6, 300))
            if told[0] == [0, 1]:
                self.assertNotEqual(told[1][0], 1, (seed, nonterminals, rules))


if __name__ == "__main__":
    unittest.main()
