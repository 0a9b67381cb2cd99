"""Kept selections go with the text."""

import unittest

from keyeditor.texts import Carrier
from tests.helper import DEL, ESC, EditorTest, numbers


class Carried(unittest.TestCase):
    def check_carried(self, old, new, places):
        carrier = Carrier(numbers(old), numbers(new))
        self.assertEqual([carrier.carried(place) for place in range(len(old) + 1)], places)

    def test_put_in(self):
        self.check_carried("abcd", "abXXcd", [0, 1, 2, 5, 6])
        self.check_carried("abcd", "Xabcd", [0, 2, 3, 4, 5])
        self.check_carried("abcd", "abcdX", [0, 1, 2, 3, 4])

    def test_taken_out(self):
        self.check_carried("abcdef", "abef", [0, 1, 2, 2, 2, 3, 4])
        self.check_carried("abcd", "", [0, 0, 0, 0, 0])
        self.check_carried("abcd", "cd", [0, 0, 0, 1, 2])
        self.check_carried("abcd", "ab", [0, 1, 2, 2, 2])

    def test_exchanged(self):
        self.check_carried("abcdef", "abXYef", [0, 1, 2, 2, 4, 5, 6])
        self.check_carried("abcd", "wxyz", [0, 0, 0, 0, 4])
        self.check_carried("abcdef", "aXef", [0, 1, 1, 1, 2, 3, 4])

    def test_alike_ahead_counts_first(self):
        self.check_carried("aaa", "aaaa", [0, 1, 2, 3])
        self.check_carried("aaaa", "aaa", [0, 1, 2, 3, 3])
        self.check_carried("abab", "ababab", [0, 1, 2, 3, 4])
        self.check_carried("aba", "ababa", [0, 1, 2, 3])

    def test_alike_at_the_end_only_of_what_is_behind(self):
        self.check_carried("aba", "aa", [0, 1, 1, 2])
        self.check_carried("xaay", "xay", [0, 1, 2, 2, 3])
        self.check_carried("xaaay", "xay", [0, 1, 2, 2, 2, 3])
        self.check_carried("aaaaa", "aa", [0, 1, 2, 2, 2, 2])

    def test_same(self):
        self.check_carried("abc", "abc", [0, 1, 2, 3])
        self.check_carried("", "", [0])
        self.check_carried("", "abc", [0])


class KeptThroughChanges(EditorTest):
    def test_inserted_ahead(self):
        self.check("abcd", "2lLz99hixy" + ESC, [(2, 2)], becomes="xyabcd", kept=[(4, 5)])

    def test_inserted_within(self):
        self.check("abcd", "l2Lzhix" + ESC, [(3, 3)], becomes="abxcd", kept=[(1, 4)])

    def test_inserted_behind_and_at_the_edges(self):
        self.check("abcd", "lLzlix" + ESC, [(4, 4)], becomes="abcxd", kept=[(1, 2)])
        self.check("abcd", "lLzhix" + ESC, [(2, 2)], becomes="axbcd", kept=[(1, 3)])
        self.check("abcd", "lLz;ix" + ESC, [(3, 3)], becomes="abxcd", kept=[(1, 2)])

    def test_looks_as_before(self):
        self.check("abcd", "3l2Hz99hix" + ESC + "Z", [(4, 2)], becomes="xabcd", kept=[(4, 2)])

    def test_each_key_of_insert_mode_carries(self):
        self.check("ab", "lzab" + ESC, [(2, 2)], becomes="abb", kept=[(1, 1)])
        self.check("abc", "2lz2hixy" + DEL * 2 + ESC, [(0, 0)], kept=[(2, 2)])
        self.check("abcd", "2lLz%cabcd" + ESC, [(4, 4)], kept=[(0, 0)])

    def test_taken_out(self):
        self.check("abcdef", "5lLz%sc\nd", [(2, 2)], becomes="abdef", kept=[(4, 5)])
        self.check("abcdef", "%sbcd\nzd", [(1, 1)], becomes="aef", kept=[(1, 1)])
        self.check("abcdef", "%scd\nz%sbcde\n;hHd", [(3, 3)], becomes="abcef", kept=[(2, 3)])

    def test_tidied(self):
        self.check("abxba", "%sb\nz%sbxb\n", [(1, 4)], kept=[(1, 2), (3, 4)])
        self.check("abxba", "%sb\nz%sbxb\nd", [(1, 1)], becomes="aa", kept=[(1, 1)])
        self.check("abxba", "%sb\nz%sbxb\ndZ", [(1, 1)], becomes="aa")

    def test_main_of_those_kept(self):
        self.check("a.a.a.a", "%sa\n2)z%Z", [(0, 1), (2, 3), (4, 5), (6, 7)], main=1)
        self.check("a.a.a.a", "%sa\n2)z%sa.a\n),dZ", [(0, 0), (1, 2), (3, 4)], becomes=".a.a", main=0)
        self.check("a.a.a.a", "%sa\n3)z%sa.a\n),dZ", [(0, 0), (1, 2), (3, 4)], becomes=".a.a", main=1)

    def test_changed_at_all_at_once_is_one_change(self):
        # From the first to the last place that is changed all others come to the first one.
        self.check("ab-cd-ef", "3lLz%s-\n~rX", [(2, 3), (5, 6)], becomes="abXcdXef", main=1, kept=[(2, 2)])
        self.check("ab-cd-ef", "6lLz%s-\nrX", [(2, 3), (5, 6)], becomes="abXcdXef", main=1, kept=[(6, 7)])

    def test_p_o_c_r_and_case(self):
        self.check("abcd", "2lLz9hLyp", [(1, 2)], becomes="aabcd", kept=[(3, 4)])
        self.check("abcd", "2lLz9hLyP", [(0, 1)], becomes="aabcd", kept=[(3, 4)])
        self.check("a\ncd", "2lLz3ho" + ESC, [(2, 2)], becomes="a\n\ncd", kept=[(2, 4)])
        self.check("abcd", "2lLz2h2Hc" + ESC, [(0, 0)], becomes="bcd", kept=[(1, 2)])
        self.check("abcd", "2lLz%rx", [(0, 4)], becomes="xxxx", kept=[(0, 0)])
        self.check("abcd", "3lLz%~", [(0, 4)], becomes="ABCD", kept=[(0, 4)])

    def test_nothing_exchanged_nothing_carried(self):
        self.check("a" * 200, "5lLz5hix" + ESC, [(1, 1)], kept=[(5, 6)])

    def test_undone_and_done_again(self):
        self.check("abcd", "2lLz99hixy" + ESC + "u", [(0, 0)], kept=[(2, 3)])
        self.check("abcd", "2lLz99hixy" + ESC + "uU", [(2, 2)], becomes="xyabcd", kept=[(4, 5)])
        self.check("abcdef", "4lz%du", [(0, 6)], kept=[(0, 0)])

    def test_kept_within_is_not_brought_apart_by_undoing(self):
        self.check("abxba", "%sb\nz%sbxb\ndu", [(1, 4)], kept=[(1, 1)])

    def test_each_step_of_a_count_carries(self):
        # In one go from the last text to the first the place 2 would stay; but there is one without bytes between.
        self.check("abcd", "%diabcd!" + ESC + "3hz2u", [(0, 4)], kept=[(0, 0)])
        self.check("abcd", "%diabcd!" + ESC + "2u2hz2U", [(5, 5)], becomes="abcd!", kept=[(0, 0)])


if __name__ == "__main__":
    unittest.main()
