"""Selections are always in order and apart."""

import random
import unittest

from keyeditor.selections import Selection, tidied
from tests.helper import ESC, DEL, EditorTest, Seen


def made(places, main):
    done = tidied([Selection(anchor, hand) for anchor, hand in places], main)
    return [(one.anchor, one.hand) for one in done.each], done.main


class Tidied(unittest.TestCase):
    def check_tidied(self, places, main, expected, expected_main):
        self.assertEqual(made(places, main), (expected, expected_main))

    def test_order(self):
        self.check_tidied([(5, 6), (1, 2), (3, 3)], 0, [(1, 2), (3, 3), (5, 6)], 2)
        self.check_tidied([(6, 5), (2, 1), (3, 3)], 1, [(2, 1), (3, 3), (6, 5)], 0)
        self.check_tidied([(6, 5), (2, 1), (3, 3)], 2, [(2, 1), (3, 3), (6, 5)], 1)

    def test_side_by_side_are_apart(self):
        self.check_tidied([(0, 3), (3, 5)], 0, [(0, 3), (3, 5)], 0)
        self.check_tidied([(3, 0), (5, 3)], 1, [(3, 0), (5, 3)], 1)

    def test_one_within_or_over_another(self):
        self.check_tidied([(0, 3), (2, 5)], 0, [(0, 5)], 0)
        self.check_tidied([(0, 5), (1, 3)], 1, [(0, 5)], 0)
        self.check_tidied([(0, 5), (0, 3)], 1, [(0, 5)], 0)
        self.check_tidied([(0, 5), (2, 2)], 0, [(0, 5)], 0)

    def test_a_caret_at_an_end(self):
        self.check_tidied([(0, 3), (3, 3)], 0, [(0, 3)], 0)
        self.check_tidied([(3, 3), (3, 6)], 0, [(3, 6)], 0)
        self.check_tidied([(0, 3), (4, 4)], 0, [(0, 3), (4, 4)], 0)
        self.check_tidied([(2, 2), (3, 6)], 0, [(2, 2), (3, 6)], 0)

    def test_a_caret_between_two_goes_to_the_first_alone(self):
        self.check_tidied([(0, 3), (3, 3), (3, 5)], 1, [(0, 3), (3, 5)], 0)
        self.check_tidied([(3, 5), (3, 3), (3, 0)], 1, [(0, 3), (3, 5)], 0)

    def test_carets_alike(self):
        self.check_tidied([(2, 2), (2, 2), (2, 2)], 1, [(2, 2)], 0)
        self.check_tidied([(2, 2), (1, 1), (2, 2)], 2, [(1, 1), (2, 2)], 1)

    def test_what_it_has_become_counts(self):
        self.check_tidied([(0, 9), (1, 2), (8, 11), (10, 12)], 0, [(0, 12)], 0)
        self.check_tidied([(0, 4), (1, 2), (4, 5)], 0, [(0, 4), (4, 5)], 0)

    def test_looks_as_the_main_one(self):
        self.check_tidied([(0, 3), (5, 2)], 1, [(5, 0)], 0)
        self.check_tidied([(0, 3), (5, 2)], 0, [(0, 5)], 0)
        self.check_tidied([(3, 0), (2, 5)], 1, [(0, 5)], 0)
        self.check_tidied([(3, 0), (2, 5)], 0, [(5, 0)], 0)
        self.check_tidied([(3, 0), (3, 3)], 1, [(0, 3)], 0)
        self.check_tidied([(3, 0), (3, 3)], 0, [(3, 0)], 0)

    def test_looks_as_the_first_if_none_is_main(self):
        self.check_tidied([(3, 0), (2, 5), (9, 9)], 2, [(5, 0), (9, 9)], 1)
        self.check_tidied([(0, 3), (5, 2), (9, 9)], 2, [(0, 5), (9, 9)], 1)

    def test_the_main_one_in_what_it_has_become(self):
        self.check_tidied([(0, 3), (5, 2), (4, 7)], 1, [(7, 0)], 0)
        self.check_tidied([(0, 3), (5, 2), (4, 7)], 2, [(0, 7)], 0)

    def test_those_alike_stay_as_they_stood(self):
        self.check_tidied([(0, 3), (3, 0), (9, 9)], 2, [(0, 3), (9, 9)], 1)
        self.check_tidied([(3, 0), (0, 3), (9, 9)], 2, [(3, 0), (9, 9)], 1)
        self.check_tidied([(0, 3), (3, 0)], 1, [(3, 0)], 0)

    def test_main_behind_those_made_one(self):
        self.check_tidied([(0, 2), (1, 3), (4, 5), (6, 6)], 3, [(0, 3), (4, 5), (6, 6)], 2)


class TidiedAfterKeys(EditorTest):
    def test_moves(self):
        self.check("ababab", "%sb\n9h", [(0, 0)])
        self.check("ababab", "%sb\n2L", [(1, 6)])
        self.check("ab ab", "%sb\n3L", [(1, 5)])

    def test_looks_as_the_main_one(self):
        self.check("ab ab", "%sb\n4H", [(1, 0), (4, 1)], main=1)
        self.check("ab ab", "%sb\n5H", [(4, 0)])
        self.check("abcabc", "%sc\n;)3H", [(3, 0), (6, 3)])
        self.check("abcabc", "%sc\n;)4H", [(6, 0)])

    def test_taken_out(self):
        self.check("abab", "%sb\nL2Hd", [(1, 1), (2, 2)], becomes="abb", main=1)
        self.check("aabb", "%sa\nd", [(0, 0)], becomes="bb")
        self.check("aabb", "%sa\n)d", [(0, 0)], becomes="bb")

    def test_rubbed_out(self):
        self.check("ab ab", "%sb\na" + DEL + DEL + DEL, [(0, 0)], becomes="", mode=1)
        self.check("ab ab", "%sb\n)i" + DEL, [(0, 0), (2, 2)], becomes="b b", mode=1)
        self.check("aab", "%sa\na" + DEL, [(0, 0)], becomes="b", mode=1)

    def test_brought_back(self):
        self.check("ab ab", "%sb\nz%dZ", [(0, 0)], becomes="", kept=[(0, 0)])


class AlwaysApart(unittest.TestCase):
    def test_whatever_is_pressed(self):
        keys = "hljkwbHLJKWBx%;,)dypP~iacorsS/nNzZuU.@q" + "%sa\nz2L3H" + ESC + "9\n " + DEL
        chance = random.Random(11)
        for time in range(300):
            text = "".join(chance.choice("aab \n") for place in range(chance.randint(0, 60)))
            pressed = "%sa\n" + "".join(chance.choice(keys) for place in range(56))
            seen = Seen(text, pressed)
            self.check_apart(seen.sels, len(seen.text))
            self.assertTrue(0 <= seen.main < len(seen.sels) <= 30)
            self.assertLessEqual(len(seen.text), 200)
            if seen.kept is not None:
                self.check_apart(seen.kept, len(seen.text))

    def check_apart(self, sels, length):
        spans = [(min(pair), max(pair)) for pair in sels]
        self.assertGreaterEqual(len(spans), 1)
        self.assertTrue(all(0 <= begin <= end <= length for begin, end in spans))
        for first, second in zip(spans, spans[1:]):
            caret = first[0] == first[1] or second[0] == second[1]
            self.assertTrue(first[1] < second[0] or first[1] == second[0] and not caret)


if __name__ == "__main__":
    unittest.main()
