"""The interface: whole lines of calls."""

import unittest

import twotrees.grammars
from lines import FAR, ask, load, load_row, search, search_behind, signs, sure, ways

TWICE = [(0, [0, 0]), (0, ["a"])]


class Lines(unittest.TestCase):
    def test_form_of_the_answers(self):
        line = load(1, TWICE) + signs() + search(0, 8, 300) + search(0, 8, 1) + ways(0, "b") + ways(5, "") + sure()
        self.assertEqual(twotrees.grammars.answers(line),
                         [1, 0, 3, 0, 1, 97, 6, 1, 4, 3, 97, 97, 97, 1, 2, 2, 0, 0, 1, -4, 2, 0, 0])

    def test_infinitely_many_is_one_number(self):
        self.assertEqual(twotrees.grammars.answers(load(1, [(0, [0]), (0, [])]) + ways(0, "")), [1, 0, 1, 1])

    def test_handed_in_twice(self):
        line = load(1, TWICE) + search_behind(0, 8, 300, "aaa") + ways(0, "aaaa") + sure() + signs()
        kept = list(line)
        first = twotrees.grammars.answers(line)
        self.assertEqual(twotrees.grammars.answers(line), first)
        self.assertEqual(line, kept)

    def test_nothing_is_kept_between_lines(self):
        ask(load(3, TWICE), ways(0, "aa"))
        self.assertEqual(ask(signs(), ways(0, "aa"), ways(1, "")), [[0, 0], [0, 0], [-4]])

    def test_what_is_given_back_is_no_part_of_what_is_held(self):
        told = twotrees.grammars.answers(load(1, TWICE) + signs() + signs())
        told[3] = 5
        self.assertEqual(twotrees.grammars.answers(load(1, TWICE) + signs()), [1, 0, 3, 0, 1, 97])

    def test_any_order(self):
        told = ask(search(0, 2, 9), load(1, TWICE), ways(0, "aaa"), load_row([-5]), sure(), load_row([]),
                   search(0, 8, 9), load(2, [(1, ["b"])]), ways(1, "b"), search(1, 1, 9), ways(0, "aaa"), sure())
        self.assertEqual(told, [[0, 1], [0], [0, 2], [-1], [0, 0], [-2], [1, 4, 3, 97, 97, 97], [0], [0, 1], [0, 2],
                                [0, 0], [0, 1]])

    def test_sixty_calls(self):
        told = ask(*([load(1, TWICE), signs(), ways(0, "aaa")] * 20))
        self.assertEqual(told, [[0], [0, 1, 97], [0, 2]] * 20)

    def test_numbers_of_calls_among_the_arguments(self):
        told = ask(load_row([4, 0]), ways(3, [0, 1, 2, 9]), search_behind(2, 4, 9, [9, 2, 1]), ways(FAR, [4]), signs())
        self.assertEqual(told, [[0], [0, 0], [-7], [-4], [0, 0]])

    def test_long_lists(self):
        told = ask(load_row([1] * 2000), load_row([FAR] * 2000), ways(0, [1] * 2000), signs())
        self.assertEqual(told, [[-2], [-2], [-3], [0, 0]])


if __name__ == "__main__":
    unittest.main()
