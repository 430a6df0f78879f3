"""Point 2: signs, and with them the classes."""

import unittest

from lines import ask, ask_of, load, signs, ways


def signs_with(ranges):
    told = ask_of(1, [(0, [pair]) for pair in ranges], signs())[0]
    if told[0] != 0 or told[1] != len(told) - 2:
        raise AssertionError("the count is wrong")
    return told[2:]


class Signs(unittest.TestCase):
    def test_no_ranges(self):
        self.assertEqual(ask(signs()), [[0, 0]])
        self.assertEqual(ask_of(2, [(0, []), (0, [1, 0])], signs()), [[0, 0]])

    def test_one_range(self):
        self.assertEqual(signs_with([(97, 97)]), [97])
        self.assertEqual(signs_with([(0, 255)]), [0])
        self.assertEqual(signs_with([(255, 255)]), [255])

    def test_same_range_again(self):
        self.assertEqual(signs_with([(10, 20), (10, 20)]), [10])

    def test_overlapping(self):
        self.assertEqual(signs_with([(10, 20), (15, 30)]), [10, 15, 21])
        self.assertEqual(signs_with([(15, 30), (10, 20)]), [10, 15, 21])
        self.assertEqual(signs_with([(10, 30), (15, 20)]), [10, 15, 21])
        self.assertEqual(signs_with([(10, 30), (10, 20)]), [10, 21])
        self.assertEqual(signs_with([(10, 30), (20, 30)]), [10, 20])

    def test_touching(self):
        self.assertEqual(signs_with([(10, 20), (21, 30)]), [10, 21])
        self.assertEqual(signs_with([(97, 97), (98, 98), (99, 99)]), [97, 98, 99])

    def test_gaps(self):
        self.assertEqual(signs_with([(10, 20), (22, 30)]), [10, 22])
        self.assertEqual(signs_with([(0, 0), (255, 255)]), [0, 255])

    def test_up_to_the_last_byte(self):
        self.assertEqual(signs_with([(200, 255), (0, 210)]), [0, 200, 211])
        self.assertEqual(signs_with([(200, 255), (254, 255), (255, 255)]), [200, 254, 255])

    def test_as_many_as_can_be(self):
        rules = [(0, [(byte, byte) for byte in range(first, first + 8)]) for first in range(0, 256, 8)]
        self.assertEqual(ask_of(1, rules, signs()), [[0, 256] + list(range(256))])

    def test_ranges_of_rules_that_nothing_reaches_count_too(self):
        self.assertEqual(ask_of(2, [(0, ["a"]), (1, [(97, 99), 1])], signs()), [[0, 2, 97, 98]])

    def test_every_byte_of_a_class_is_covered_alike(self):
        told = ask(load(1, [(0, [(10, 20)]), (0, [(15, 30)])]), *[ways(0, [byte]) for byte in range(5, 36)])
        expected = [0] * 5 + [1] * 5 + [2] * 6 + [1] * 10 + [0] * 5
        self.assertEqual(told[1:], [[0, number] for number in expected])


if __name__ == "__main__":
    unittest.main()
