"""The interface: whole lines of calls."""

import unittest

import twotrees.grammars
from lines import FAR, ask, core, load, load_row, odds, search, search_behind, signs, sure, tally, ways, widest

TWICE = [(0, [0, 0]), (0, ["a"])]
CORE = [1, 2, 0, 0, 3, 0, 2, 0, 0, 1, 0, 1, 3, 0, 2, 0, 0, 2, 0, 2, 3]


class Untouched(list):
    """A list that can't be changed, not for a while either."""

    def refuse(self, *args, **named):
        raise AssertionError("the list handed in was changed")

    append = clear = extend = insert = pop = remove = reverse = sort = refuse
    __setitem__ = __delitem__ = __iadd__ = __imul__ = refuse


class Lines(unittest.TestCase):
    def test_form_of_the_answers(self):
        line = load(1, TWICE) + signs() + search(0, 8, 300) + search(0, 8, 1) + ways(0, "b") + ways(5, "") + sure()
        self.assertEqual(twotrees.grammars.answers(line),
                         [1, 0, 3, 0, 1, 97, 6, 1, 4, 3, 97, 97, 97, 1, 2, 2, 0, 0, 1, -4, 2, 0, 0])

    def test_form_of_the_later_answers(self):
        line = load(1, TWICE) + core(0, "aaa") + core(0, "a") + core(0, "") + tally(0, 4) + widest(0, 3) + odds(0, 4)
        self.assertEqual(twotrees.grammars.answers(line + odds(0, 0) + tally(0, 9)), [1, 0, 21] + CORE + [
            1, 0, 1, -8, 5, 0, 5, 4, 2, 0, 7, 0, 0, 2, 3, 97, 97, 97, 4, 0, 1, 0, 0, 2, 0, 0, 1, -5])

    def test_infinitely_many_is_one_number(self):
        line = load(1, [(0, [0]), (0, [])]) + ways(0, "") + widest(0, 8)
        self.assertEqual(twotrees.grammars.answers(line), [1, 0, 1, 1, 3, 0, 1, 0])

    def test_what_is_handed_in_is_not_changed(self):
        line = load(1, TWICE) + load_row([-1]) + load_row([0]) + signs() + search(0, 8, 300)
        line += search_behind(0, 8, 300, "aaa") + search_behind(0, 8, 300, "b") + ways(0, "aaa") + ways(0, [256])
        line += core(0, "aaa") + core(0, "") + core(0, "a" * 24) + tally(0, 8) + widest(0, 8) + odds(0, 8) + sure()
        self.assertEqual(twotrees.grammars.answers(Untouched(line)), twotrees.grammars.answers(line))

    def test_handed_in_twice(self):
        line = load(1, TWICE) + search_behind(0, 8, 300, "aaa") + ways(0, "aaaa") + sure() + signs()
        line += core(0, "aaaa") + tally(0, 8) + widest(0, 8) + odds(0, 8)
        kept = list(line)
        first = twotrees.grammars.answers(line)
        self.assertEqual(twotrees.grammars.answers(line), first)
        self.assertEqual(line, kept)

    def test_nothing_is_kept_between_lines(self):
        ask(load(3, TWICE), ways(0, "aa"), core(0, "aaa"), odds(0, 8))
        self.assertEqual(ask(core(0, "aaa"), odds(0, 8), tally(0, 8), widest(0, 8)),
                         [[-8], [0, 0], [0, 1, 0, 0, 0], [0, 0, 0, 0]])
        self.assertEqual(ask(signs(), ways(0, "aa"), ways(1, "")), [[0, 0], [0, 0], [-4]])

    def test_what_is_given_back_is_no_part_of_what_is_held(self):
        told = twotrees.grammars.answers(load(1, TWICE) + signs() + signs())
        told[3] = 5
        self.assertEqual(twotrees.grammars.answers(load(1, TWICE) + signs()), [1, 0, 3, 0, 1, 97])

    def test_any_order(self):
        told = ask(search(0, 2, 9), load(1, TWICE), ways(0, "aaa"), load_row([-5]), sure(), load_row([]),
                   search(0, 8, 9), load(2, [(1, ["b"])]), ways(1, "b"), search(1, 1, 9), ways(0, "aaa"), sure())
        self.assertEqual(told, [[0, 1], [0], [0, 2], [-1], [0, 0], [-2], [1, 4, 3, 97, 97, 97], [0], [0, 1], [0, 2],
                                [0, 0], [0, 1]])

    def test_several_grammars_in_one_line(self):
        twins = [(0, ["a", "a"]), (0, [1, 1]), (1, ["a"]), (2, ["b"])]
        told = ask(load(1, TWICE), odds(0, 3), core(0, "aaa"), load(3, twins), odds(0, 3), core(0, "aaa"),
                   tally(0, 2), widest(0, 2), load(2, []), odds(0, 3), core(1, ""), tally(1, 8), load(1, TWICE),
                   odds(0, 3), core(0, "aaa"), tally(0, 3), widest(0, 1))
        self.assertEqual(told, [[0], [0, 1, 0, 0], CORE, [0], [0, 1, 0, 1], [-8], [0, 7, 1, 1, 0],
                                [0, 0, 2, 2, 97, 97], [0], [0, 0], [-8], [0, 1, 0, 0, 0], [0], [0, 1, 0, 0], CORE,
                                [0, 4, 3, 1, 0], [0, 0, 1, 1, 97]])

    def test_refusals_in_between(self):
        refused = [(load_row([1, -1]), -1), (load_row([21, 0]), -2), (core(0, [256]), -1), (core(0, "a" * 25), -3),
                   (core(1, "a"), -4), (core(0, "b"), -8), (core(0, "a" * 24), -9), (tally(-1, 8), -4),
                   (widest(0, 9), -5), (odds(0, -1), -5), (search(0, 8, 301), -6), (search_behind(0, 1, 1, "b"), -7)]
        calls = [load(1, TWICE)]
        expected = [[0]]
        for call, number in refused:
            calls += [call, core(0, "aaa"), tally(0, 4), odds(0, 4)]
            expected += [[number], CORE, [0, 5, 4, 2, 0], [0, 1, 0, 0]]
        self.assertEqual(ask(*calls), expected)

    def test_sixty_calls(self):
        told = ask(*([load(1, TWICE), signs(), ways(0, "aaa")] * 20))
        self.assertEqual(told, [[0], [0, 1, 97], [0, 2]] * 20)

    def test_numbers_of_calls_among_the_arguments(self):
        told = ask(load_row([4, 0]), ways(3, [0, 1, 2, 9]), search_behind(2, 4, 9, [9, 2, 1]), ways(FAR, [4]), signs())
        self.assertEqual(told, [[0], [0, 0], [-7], [-4], [0, 0]])
        told = ask(load_row([9, 0]), core(5, [5, 6, 7]), tally(6, 7), widest(8, 6), odds(7, 5), core(0, [9, 9]), sure())
        self.assertEqual(told, [[0], [-8], [0, 1, 0, 0, 0], [0, 0, 0, 0], [0, 0], [-8], [0, 1]])

    def test_long_lists(self):
        told = ask(load_row([1] * 2000), load_row([FAR] * 2000), ways(0, [1] * 2000), core(0, [1] * 2000), signs())
        self.assertEqual(told, [[-2], [-2], [-3], [-3], [0, 0]])


if __name__ == "__main__":
    unittest.main()
