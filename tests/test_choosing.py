"""The keys that only choose, with and without counts."""

import unittest

from tests.helper import ESC, EditorTest

# Lines begin at 0, 8, 9, 12; the last one has no byte 10.
LINES = "one two\n\nab\nthree"


class Counts(EditorTest):
    def test_counts(self):
        long = "a" * 200
        for digits, place in (("", 1), ("1", 1), ("9", 9), ("10", 10), ("42", 42), ("99", 99), ("100", 99),
                              ("999", 99), ("1000000", 99), ("12345", 99), ("98", 98)):
            self.check(long, digits + "l", [(place, place)])

    def test_nothing_counted_is_one(self):
        for keys in ("0l", "00l", "0" + "1l"):
            self.check("abc", keys, [(1, 1)])

    def test_0_alone_does_nothing_and_a_digit_behind_it_counts(self):
        self.check("abcdef", "03l", [(3, 3)])

    def test_count_is_gone_when_through(self):
        self.check("abcdefgh", "3ll", [(4, 4)])
        self.check("abcdefgh", "3vl", [(1, 1)])
        self.check("abcdefgh", "3" + ESC + "l", [(1, 1)])
        self.check("abcdefgh", "3ql", [(1, 1)])
        self.check("abcdefgh", "3i" + ESC + "l", [(1, 1)])
        self.check("abcdefgh", "3r" + ESC + "l", [(1, 1)])
        self.check("abcdefgh", "3rxl", [(1, 1)])
        self.check("abcdefgh", "3s" + ESC + "l", [(1, 1)])
        self.check("abcdefgh", "3/x\nl", [(1, 1)])
        self.check("abcdefgh", "3ul", [(1, 1)])
        self.check("abcdefgh", "3.l", [(1, 1)])
        self.check("abcdefgh", "3@l", [(1, 1)])

    def test_digits_of_a_count_leave_selections(self):
        self.check("abcdef", "2L99", [(0, 2)])


class OtherKeys(EditorTest):
    def test_other_keys_do_nothing(self):
        known = set("0123456789hljkwbHLJKWBx%;,)dypP~iacorsS/nNzZuU.@q\x1b")
        for byte in range(256):
            if chr(byte) not in known:
                self.check("ab ab\nab", "%sb\nH" + chr(byte) + "l", [(2, 2), (5, 5), (8, 8)], main=2)

    def test_27_leaves_text_and_selections(self):
        self.check("abc", "lL" + ESC, [(1, 2)])


class LeftAndRight(EditorTest):
    def test_h(self):
        self.check("abc", "llh", [(1, 1)])
        self.check("abc", "h", [(0, 0)])
        self.check("a\nb", "3l2h", [(1, 1)])
        self.check("abcdef", "6l99h", [(0, 0)])
        self.check("", "h", [(0, 0)])

    def test_h_from_the_hand(self):
        self.check("abcdef", "l4Lh", [(4, 4)])
        self.check("abcdef", "5l3Hh", [(1, 1)])

    def test_h_with_several(self):
        self.check("ab ab ab", "%sb\nh", [(1, 1), (4, 4), (7, 7)], main=2)
        self.check("ab ab ab", "%sb\n3h", [(0, 0), (2, 2), (5, 5)], main=2)

    def test_H(self):
        self.check("abc", "llH", [(2, 1)])
        self.check("abc", "llHH", [(2, 0)])
        self.check("abc", "ll9H", [(2, 0)])
        self.check("abcdef", "l4L2H", [(1, 3)])
        self.check("abcdef", "2l2L3H", [(2, 1)])
        self.check("", "H", [(0, 0)])

    def test_H_with_several(self):
        self.check("ab ab ab", "%sb\n2H", [(1, 0), (4, 3), (7, 6)], main=2)

    def test_l(self):
        self.check("abc", "l", [(1, 1)])
        self.check("abc", "3l", [(3, 3)])
        self.check("abc", "4l", [(3, 3)])
        self.check("abc", "99l", [(3, 3)])
        self.check("a\nb", "2l", [(2, 2)])
        self.check("", "l", [(0, 0)])

    def test_l_from_the_hand(self):
        self.check("abcdef", "2Ll", [(3, 3)])
        self.check("abcdef", "4l3Hl", [(2, 2)])

    def test_L(self):
        self.check("abc", "L", [(0, 1)])
        self.check("abc", "l9L", [(1, 3)])
        self.check("abcdef", "4l3HL", [(4, 2)])
        self.check("abcdef", "2lH3L", [(2, 4)])
        self.check("abcdef", "2lHL", [(2, 2)])

    def test_L_with_several(self):
        self.check("ab ab ab", "%sa\nL", [(0, 2), (3, 5), (6, 8)], main=2)


class UpAndDown(EditorTest):
    def test_j(self):
        self.check(LINES, "j", [(8, 8)])
        self.check(LINES, "2j", [(9, 9)])
        self.check(LINES, "3j", [(12, 12)])
        self.check(LINES, "4j", [(17, 17)])
        self.check(LINES, "99j", [(17, 17)])
        self.check("", "j", [(0, 0)])
        self.check("abc", "lj", [(3, 3)])

    def test_j_keeps_the_place_in_the_line(self):
        self.check("abc\ndefg\nh", "2lj", [(6, 6)])
        self.check("abc\ndefg\nh", "3lj", [(7, 7)])
        self.check("abc\ndefg\nh", "3l2j", [(10, 10)])
        self.check("abc\ndefg\nh", "4l3lj", [(10, 10)])

    def test_j_counts_the_bytes_anew_in_each_line(self):
        self.check("abcd\n\nabcd", "3l2j", [(6, 6)])

    def test_j_to_a_last_line_without_bytes(self):
        self.check("abc\n", "2lj", [(4, 4)])
        self.check("abc\n", "2l2j", [(4, 4)])
        self.check("\n\n", "j", [(1, 1)])
        self.check("\n\n", "2j", [(2, 2)])

    def test_k(self):
        self.check(LINES, "99lk", [(11, 11)])
        self.check(LINES, "99l2k", [(8, 8)])
        self.check(LINES, "99l3k", [(0, 0)])
        self.check(LINES, "3lk", [(0, 0)])
        self.check("", "k", [(0, 0)])
        self.check("abc\ndefg", "6lk", [(2, 2)])
        self.check("abc\ndefg", "7lk", [(3, 3)])
        self.check("abc\ndefg", "8lk", [(3, 3)])
        self.check("abc\ndefg", "8l2k", [(0, 0)])
        self.check("abc\n", "4lk", [(0, 0)])
        self.check("ab\n\ncd", "5l2k", [(0, 0)])

    def test_J(self):
        self.check("abc\ndef\nghi", "lJ", [(1, 5)])
        self.check("abc\ndef\nghi", "l2J", [(1, 9)])
        self.check("abc\ndef\nghi", "l3J", [(1, 11)])
        self.check("abc\ndef\nghi", "6l4HJ", [(6, 6)])

    def test_K(self):
        self.check("abc\ndef\nghi", "9lK", [(9, 5)])
        self.check("abc\ndef\nghi", "9l2K", [(9, 1)])
        self.check("abc\ndef\nghi", "9l99K", [(9, 0)])
        self.check("abc\ndef\nghi", "5l4LK", [(5, 5)])

    def test_several(self):
        self.check("ab\nab\nab", "%sb\n;hj", [(4, 4), (7, 7), (8, 8)], main=2)
        self.check("ab\nab\nab", "%sb\n;hk", [(0, 0), (1, 1), (4, 4)], main=2)
        self.check("ab\nab\nab\n", "%sb\nJ", [(1, 9)], main=0)
        self.check("ab\nab\nab", "%sa\nH2K", [(6, 0)], main=0)


class Words(EditorTest):
    def test_w(self):
        self.check("foo bar  baz", "w", [(4, 4)])
        self.check("foo bar  baz", "2w", [(9, 9)])
        self.check("foo bar  baz", "3w", [(12, 12)])
        self.check("foo bar  baz", "99w", [(12, 12)])
        self.check("foo bar", "lw", [(4, 4)])
        self.check("foo bar", "3lw", [(4, 4)])
        self.check("", "w", [(0, 0)])
        self.check("foo\n\nbar", "w", [(5, 5)])
        self.check("  foo", "w", [(2, 2)])
        self.check("foo \n", "w", [(5, 5)])

    def test_words_bytes(self):
        for byte in range(256):
            sign = chr(byte)
            of_a_word = sign.isascii() and (sign.isalnum() or sign == "_")
            self.check("a" + sign + "a.", "w", [(4, 4)] if of_a_word else [(2, 2)])
            self.check("." + sign + ".", "3lb", [(1, 1)] if of_a_word else [(0, 0)])

    def test_b(self):
        self.check("foo bar  baz", "99lb", [(9, 9)])
        self.check("foo bar  baz", "99l2b", [(4, 4)])
        self.check("foo bar  baz", "99l3b", [(0, 0)])
        self.check("foo bar  baz", "99l99b", [(0, 0)])
        self.check("foo bar", "6lb", [(4, 4)])
        self.check("foo bar", "4lb", [(0, 0)])
        self.check("  foo", "5l2b", [(0, 0)])
        self.check("  ", "2lb", [(0, 0)])
        self.check("", "b", [(0, 0)])
        self.check("foo\n\n", "99lb", [(0, 0)])

    def test_W(self):
        self.check("foo bar baz", "lW", [(1, 4)])
        self.check("foo bar baz", "l2W", [(1, 8)])
        self.check("foo bar baz", "9l6HW", [(9, 4)])

    def test_B(self):
        self.check("foo bar baz", "6lB", [(6, 4)])
        self.check("foo bar baz", "6l2B", [(6, 0)])
        self.check("foo bar baz", "l7LB", [(1, 4)])

    def test_from_the_hand(self):
        self.check("foo bar baz", "5Lw", [(8, 8)])
        self.check("foo bar baz", "9l8Hw", [(4, 4)])
        self.check("foo bar baz", "l7Lb", [(4, 4)])

    def test_several(self):
        self.check("aa bb cc dd", "%sb\nw", [(6, 6)])
        self.check("ab ab ab", "%sa\nW", [(0, 3), (3, 6), (6, 8)], main=2)
        self.check("ab ab ab", "%sb\n;B", [(2, 0), (5, 3), (8, 6)], main=2)


class LinesChosen(EditorTest):
    def test_a_caret(self):
        self.check(LINES, "2lx", [(0, 8)])
        self.check(LINES, "7lx", [(0, 8)])
        self.check(LINES, "8lx", [(8, 9)])
        self.check(LINES, "9lx", [(9, 12)])
        self.check(LINES, "14lx", [(12, 17)])
        self.check(LINES, "99lx", [(12, 17)])
        self.check("", "x", [(0, 0)])
        self.check("ab\n", "3lx", [(3, 3)])

    def test_bytes(self):
        self.check("abc\ndef\nghi", "l3Lx", [(0, 4)])
        self.check("abc\ndef\nghi", "l4Lx", [(0, 8)])
        self.check("abc\ndef\nghi", "l99Lx", [(0, 11)])
        self.check("abc\ndef\nghi", "3lLx", [(0, 4)])

    def test_twice_is_once(self):
        self.check("abc\ndef\nghi", "xx", [(0, 4)])
        self.check("abc\ndef\nghi", "9xx", [(0, 4)])

    def test_looks_as_before(self):
        self.check("abc\ndef\nghi", "5lHx", [(8, 4)])
        self.check("abc\ndef\nghi", "6l4Hx", [(8, 0)])

    def test_several(self):
        self.check("ab\nab\nab", "%sb\n)Hx", [(0, 3), (3, 6), (6, 8)], main=0)
        self.check("abb\nab", "%sb\nHHx", [(4, 0), (6, 4)], main=1)


class WholeTextAndHands(EditorTest):
    def test_whole_text(self):
        self.check("abc", "2lH%", [(0, 3)])
        self.check("", "%", [(0, 0)])
        self.check("abab", "%sb\n%", [(0, 4)])
        self.check("abab", "%sb\nz5%", [(0, 4)], kept=[(1, 2), (3, 4)])

    def test_hands(self):
        self.check("abcd", "l2L;", [(3, 3)])
        self.check("abcd", "3l2H;", [(1, 1)])
        self.check("abab", "%sb\n;", [(2, 2), (4, 4)], main=1)
        self.check("abab", "%sb\n2H;", [(0, 0), (2, 2)], main=1)
        self.check("abcd", "l2L7;", [(3, 3)])


class MainOne(EditorTest):
    def test_main_alone(self):
        self.check("ababab", "%sb\n,", [(5, 6)])
        self.check("ababab", "%sb\n),", [(1, 2)])
        self.check("ababab", "%sb\n2H2),", [(3, 2)])
        self.check("abc", "L,", [(0, 1)])

    def test_next_main(self):
        three = [(1, 2), (3, 4), (5, 6)]
        self.check("ababab", "%sb\n", three, main=2)
        self.check("ababab", "%sb\n)", three, main=0)
        self.check("ababab", "%sb\n))", three, main=1)
        self.check("ababab", "%sb\n2)", three, main=1)
        self.check("ababab", "%sb\n3)", three, main=2)
        self.check("ababab", "%sb\n4)", three, main=0)
        self.check("ababab", "%sb\n98)", three, main=1)
        self.check("abc", "5)", [(0, 0)])


class KeptAside(EditorTest):
    def test_none_kept(self):
        self.check("abc", "lLZ", [(1, 2)])

    def test_kept_and_brought_back(self):
        self.check("ababab", "%sb\n)z%", [(0, 6)], kept=[(1, 2), (3, 4), (5, 6)])
        self.check("ababab", "%sb\n)z%Z", [(1, 2), (3, 4), (5, 6)], main=0, kept=[(1, 2), (3, 4), (5, 6)])
        self.check("ababab", "%sb\nH2Hz%Z", [(1, 0), (3, 1), (5, 3)], main=2)

    def test_still_kept_when_brought_back(self):
        self.check("abcd", "lz2lZlZ", [(1, 1)], kept=[(1, 1)])

    def test_instead_of_others(self):
        self.check("abcd", "lzlzZ", [(2, 2)], kept=[(2, 2)])

    def test_moves_leave_what_is_kept(self):
        self.check("abcd", "Lzll", [(3, 3)], kept=[(0, 1)])


if __name__ == "__main__":
    unittest.main()
