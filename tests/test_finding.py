"""The prompts of s, S and /, and n and N."""

import unittest

from tests.helper import DEL, ESC, EditorTest, Seen


class Prompt(EditorTest):
    def test_it_goes_on_till_answered_or_left(self):
        for key in "sS/":
            self.check("abab", "%" + key, [(0, 4)], mode=2)
            self.check("abab", "%" + key + "b", [(0, 4)], mode=2)
            self.check("abab", "%" + key + "b" + DEL * 3, [(0, 4)], mode=2)

    def test_27_leaves_it(self):
        for key in "sS/":
            self.check("abab", "%" + key + "b" + ESC, [(0, 4)])
            self.check("abab", "%" + key + "b" + ESC + "l", [(4, 4)])
            self.check("abab", "%" + key + ESC + "\n", [(0, 4)])

    def test_answered_without_bytes(self):
        for key in "sS/":
            self.check("abab", "%" + key + "\n", [(0, 4)])
            self.check("abab", "%" + key + "b" + DEL + "\n", [(0, 4)])
            self.check("abab", "3l2H" + key + "\n", [(3, 1)])

    def test_127_takes_the_last_byte_away(self):
        self.check("abcab", "%sab" + DEL + "\n", [(0, 1), (3, 4)], main=1)
        self.check("abcab", "%s" + DEL + DEL + "b\n", [(1, 2), (4, 5)], main=1)
        self.check("abcab", "%sxy" + DEL + DEL + DEL + "b\n", [(1, 2), (4, 5)], main=1)

    def test_other_keys_are_put_to_it(self):
        for byte in range(256):
            if byte not in (10, 27, 127):
                self.check("a\n" + chr(byte) + "\nc", "%,s" + chr(byte) + "\n",
                           [(0, 1), (2, 3)] if byte == 97 else [(2, 3), (4, 5)] if byte == 99 else [(2, 3)],
                           main=1 if byte in (97, 99) else 0)

    def test_each_prompt_begins_without_bytes(self):
        self.check("abab", "%sa" + ESC + "sb\n", [(1, 2), (3, 4)], main=1)
        self.check("abab", "%sa\n%s\n", [(0, 4)])

    def test_a_count_means_nothing_to_it(self):
        self.check("abab", "%3sb\n", [(1, 2), (3, 4)], main=1)
        self.check("abab", "3/b\n", [(1, 2)])


class Matches(EditorTest):
    def test_all_places(self):
        self.check("foo bar foo", "%sfoo\n", [(0, 3), (8, 11)], main=1)
        self.check("foo", "%sfoo\n", [(0, 3)])
        self.check("foo", "%sfooo\n", [(0, 3)])

    def test_one_behind_another(self):
        self.check("aaaaa", "%saa\n", [(0, 2), (2, 4)], main=1)
        self.check("abababa", "%saba\n", [(0, 3), (4, 7)], main=1)

    def test_within_the_selections_alone(self):
        self.check("ababab", "l3Lsb\n", [(1, 2), (3, 4)], main=1)
        self.check("ababab", "l3Lsab\n", [(2, 4)])
        self.check("ababab", "4l3Hsab\n", [(2, 4)])
        self.check("ababab", "l2Lsab\n", [(1, 3)])

    def test_in_each(self):
        self.check("a1a.b.a1", "%S.\nsa\n", [(0, 1), (2, 3), (6, 7)], main=2)
        self.check("a1a.b.a1", "%S.\nsb\n", [(4, 5)])
        self.check("ab.ab", "%S.\nsb.a\n", [(0, 2), (3, 5)], main=1)

    def test_they_look_to_the_right(self):
        self.check("abab", "4l4Hsb\n", [(1, 2), (3, 4)], main=1)

    def test_nothing_found(self):
        self.check("abab", "3l2Hsx\n", [(3, 1)])
        self.check("abab", "lsa\n", [(1, 1)])
        self.check("abab", "%sb\n)sx\n", [(1, 2), (3, 4)], main=0)
        self.check("", "%sa\n", [(0, 0)])

    def test_thirty_at_most(self):
        seen = Seen("ab" * 30, "%sb\n")
        self.assertEqual((seen.main, seen.sels), (29, [(2 * k + 1, 2 * k + 2) for k in range(30)]))
        self.check("ab" * 31, "%sb\n", [(0, 62)])
        self.check("b" * 200, "%sb\n", [(0, 200)])
        self.check("b" * 60, "%sbb\n", [(2 * k, 2 * k + 2) for k in range(30)], main=29)

    def test_thirty_at_most_in_all(self):
        text = "b" * 15 + "." + "b" * 15
        self.check(text, "%S.\nsb\n", [(k, k + 1) for k in range(31) if k != 15], main=29)
        self.check(text + "b", "%S.\nsb\n", [(0, 15), (16, 32)], main=1)


class Pieces(EditorTest):
    def test_between(self):
        self.check("a.bb.c", "%S.\n", [(0, 1), (2, 4), (5, 6)], main=2)
        self.check("a, b, c", "%S, \n", [(0, 1), (3, 4), (6, 7)], main=2)

    def test_carets(self):
        self.check(".a..", "%S.\n", [(0, 0), (1, 2), (3, 3), (4, 4)], main=3)
        self.check("aa", "%Saa\n", [(0, 0), (2, 2)], main=1)
        self.check("aaa", "%Saa\n", [(0, 0), (2, 3)], main=1)

    def test_nowhere_is_one_piece(self):
        self.check("abc", "%Sx\n", [(0, 3)])
        self.check("abc", "3l2HSx\n", [(1, 3)])
        self.check("abc", "lSb\n", [(1, 1)])
        self.check("", "Sb\n", [(0, 0)])

    def test_within_each(self):
        self.check("a-b.c-d.e", "%S.\nS-\n", [(0, 1), (2, 3), (4, 5), (6, 7), (8, 9)], main=4)
        self.check("abcbd", "l3LSb\n", [(1, 1), (2, 3), (4, 4)], main=2)
        self.check("abcbd", "4l3HSb\n", [(1, 1), (2, 3), (4, 4)], main=2)

    def test_the_last_one_is_main(self):
        self.check("a.b-c", "%S-\n)S.\n", [(0, 1), (2, 3), (4, 5)], main=2)

    def test_a_caret_at_the_next_ones_beginning_is_made_one_with_it(self):
        self.check("abab", "%sab\nSb\n", [(0, 1), (2, 3), (4, 4)], main=2)

    def test_thirty_at_most(self):
        self.check("a." * 29 + "a", "%S.\n", [(2 * k, 2 * k + 1) for k in range(30)], main=29)
        self.check("a." * 30, "%S.\n", [(0, 60)])
        self.check("a." * 30 + "a", "%S.\n", [(0, 61)])

    def test_more_than_thirty_though_some_would_be_made_one(self):
        self.check("ab" * 15, "%sab\nSb\n", [(2 * k, 2 * k + 1) for k in range(15)] + [(30, 30)], main=15)
        self.check("ab" * 16, "%sab\nSb\n", [(2 * k, 2 * k + 2) for k in range(16)], main=15)


class Searched(EditorTest):
    def test_from_the_main_ones_end_on(self):
        self.check("ab ab ab", "/ab\n", [(0, 2)])
        self.check("ab ab ab", "l/ab\n", [(3, 5)])
        self.check("ab ab ab", "4L/ab\n", [(6, 8)])
        self.check("ab ab ab", "3L/ab\n", [(3, 5)])
        self.check("ab ab ab", "4l3H/ab\n", [(6, 8)])

    def test_else_the_first_in_the_text(self):
        self.check("ab ab ab", "99l/ab\n", [(0, 2)])
        self.check("ab ab ab", "7l/ab\n", [(0, 2)])
        self.check("abcd", "4L/bc\n", [(1, 3)])

    def test_only_selection(self):
        self.check("ab ab ab", "%sb\n)/a\n", [(3, 4)])
        self.check("ab ab ab", "%sb\n/a\n", [(0, 1)])

    def test_none_all_stay(self):
        self.check("ab ab ab", "%sb\n)/x\n", [(1, 2), (4, 5), (7, 8)], main=0)
        self.check("", "/x\n", [(0, 0)])
        self.check("abc", "3l2H/abcd\n", [(3, 1)])

    def test_n(self):
        self.check("ab ab ab", "/ab\nn", [(3, 5)])
        self.check("ab ab ab", "/ab\nnn", [(6, 8)])
        self.check("ab ab ab", "/ab\nnnn", [(0, 2)])
        self.check("ab ab ab", "/ab\n5n", [(3, 5)])
        self.check("ab ab ab", "/ab\n%n", [(0, 2)])
        self.check("ab ab ab", "/ab\n%sb\n)n", [(3, 5)])
        self.check("aaaa", "/aa\nhn", [(1, 3)])

    def test_n_without_what_is_searched(self):
        self.check("abc", "lLn", [(1, 2)])
        self.check("abc", "lLN", [(1, 2)])
        self.check("abc", "lL/b" + ESC + "n", [(1, 2)])
        self.check("abc", "lL/\nn", [(1, 2)])
        self.check("abab", "%sb\nn", [(1, 2), (3, 4)], main=1)

    def test_searched_stays_till_another_is_answered(self):
        self.check("abcabc", "/b\n/c" + ESC + "n", [(4, 5)])
        self.check("abcabc", "/b\n/\nn", [(4, 5)])
        self.check("abcabc", "/b\n/c\nn", [(5, 6)])
        self.check("abcabc", "/b\n%sa\n;%n", [(1, 2)])

    def test_searched_though_nowhere(self):
        self.check("abc", "/b\n/x\n%n", [(0, 3)])
        self.check("abc", "/b\n/x\n%N", [(0, 3)])
        self.check("abc", "/x\n%rxn", [(0, 1)], becomes="xxx")

    def test_N(self):
        self.check("ab ab ab", "/ab\nN", [(0, 2), (3, 5)], main=1)
        self.check("ab ab ab", "/ab\nNN", [(0, 2), (3, 5), (6, 8)], main=2)
        self.check("ab ab ab", "/ab\n2N", [(0, 2), (3, 5)], main=1)
        self.check("ab ab ab", "/ab\nnnN", [(0, 2), (6, 8)], main=0)
        self.check("ab ab ab", "/ab\nNNN", [(0, 2), (3, 5), (6, 8)], main=0)
        self.check("ab ab ab", "/ab\nNN))N", [(0, 2), (3, 5), (6, 8)], main=2)

    def test_N_made_one_with_what_it_touches(self):
        self.check("abab", "/ab\n4l4HN", [(0, 4)])
        self.check("abcab", "/bc\n4l4HN", [(1, 5)])
        self.check("abcab", "/bc\n;N", [(1, 3)])
        self.check("ab ab", "/ab\n;N", [(2, 2), (3, 5)], main=1)
        self.check("ab ab", "/ab\nlN", [(3, 5)])

    def test_N_with_fewer_than_30(self):
        text = "ab" * 29 + "c"
        seen = Seen(text, "/c\n%sb\nN")
        self.assertEqual(seen.sels, [(2 * k + 1, 2 * k + 2) for k in range(29)] + [(58, 59)])
        self.assertEqual(seen.main, 29)
        seen = Seen("ab" * 30 + "c", "/c\n%sb\n)N")
        self.assertEqual(seen.sels, [(2 * k + 1, 2 * k + 2) for k in range(30)])
        self.assertEqual(seen.main, 0)


if __name__ == "__main__":
    unittest.main()
