"""The keys that change the text, insert mode and the byte of r."""

import unittest

from tests.helper import DEL, ESC, EditorTest, Seen


class TakenOutAndCopied(EditorTest):
    def test_d(self):
        self.check("abcdef", "2l2Ld", [(2, 2)], becomes="abef")
        self.check("abcdef", "4l2Hd", [(2, 2)], becomes="abef")
        self.check("abc", "%d", [(0, 0)], becomes="")
        self.check("abc", "99ld", [(3, 3)])
        self.check("", "d", [(0, 0)])
        self.check("abcdef", "2L3d", [(0, 0)], becomes="cdef")

    def test_d_at_several(self):
        self.check("xaxbxc", "%sx\nd", [(0, 0), (1, 1), (2, 2)], becomes="abc", main=2)
        self.check("xaxbxc", "%sx\n)2Hd", [(0, 0), (1, 1), (2, 2)], becomes="xxxc", main=0)
        self.check("a.bb.ccc", "%S.\nd", [(0, 0), (1, 1), (2, 2)], becomes="..", main=2)

    def test_d_copies(self):
        self.check("abc", "Ldp", [(0, 1)], becomes="abc")
        self.check("abcd", "2Ldlp", [(1, 3)], becomes="cabd")
        self.check("1a2a3", "%Sa\nd%p", [(2, 5)], becomes="aa123")
        self.check("1a2a3", "%Sa\ndp", [(0, 1), (2, 3), (4, 5)], main=2)

    def test_carets_are_copied_too(self):
        self.check("ab", "%y;dp", [(2, 2)])
        self.check("ab", "%yh;yp", [(1, 1)])

    def test_y(self):
        self.check("abc", "l2Ly", [(1, 3)])
        self.check("abc", "l2Hy", [(1, 0)])
        self.check("ab ab", "%sb\ny", [(1, 2), (4, 5)], main=1)
        self.check("abc", "l2Lyh;p", [(2, 4)], becomes="abbcc")

    def test_y_instead_of_others(self):
        self.check("abcd", "%sc\ny%sa\nyp", [(1, 2)], becomes="aabcd")


class PutIn(EditorTest):
    def test_nothing_if_there_are_none(self):
        self.check("abc", "l2Lp", [(1, 3)])
        self.check("abc", "l2LP", [(1, 3)])

    def test_p(self):
        self.check("abcd", "2Lyp", [(2, 4)], becomes="ababcd")
        self.check("abcd", "2Lylp", [(3, 5)], becomes="abcabd")
        self.check("abcd", "2Ly99lp", [(4, 6)], becomes="abcdab")
        self.check("abcd", "2Ly3p", [(2, 8)], becomes="abababab" + "cd")
        self.check("a", "%y12p", [(1, 13)], becomes="a" * 13)

    def test_P(self):
        self.check("abcd", "2l2LyP", [(2, 4)], becomes="abcdcd")
        self.check("abcd", "2LyP", [(0, 2)], becomes="ababcd")
        self.check("abcd", "2Ly3P", [(0, 6)], becomes="abababab" + "cd")
        self.check("abcd", "2Ly%P", [(0, 2)], becomes="ababcd")

    def test_looks_as_before(self):
        self.check("abcd", "3l2Hyp", [(5, 3)], becomes="abcbcd")
        self.check("abcd", "3l2HyP", [(3, 1)], becomes="abcbcd")

    def test_each_its_own(self):
        self.check("ab.cd", "%S.\nyp", [(2, 4), (7, 9)], becomes="abab.cdcd", main=1)
        self.check("ab.cd", "%S.\nyP", [(0, 2), (5, 7)], becomes="abab.cdcd", main=1)
        self.check("ab.c", "%S.\ny2p", [(2, 6), (8, 10)], becomes="ababab.ccc", main=1)
        self.check("ab.cd", "%S.\n)yHHp", [(0, 2), (5, 7)], becomes="abab.cdcd", main=0)

    def test_all_of_them_if_not_as_many(self):
        self.check("ab.cd.", "%S.\ny,p", [(6, 10)], becomes="ab.cd.abcd")
        self.check("ab.cd.", "%S.\ny,2P", [(6, 14)], becomes="ab.cd.abcdabcd")
        self.check("ab.ab", "%y%sb\np", [(2, 7), (10, 15)], becomes="abab.ab.abab.ab", main=1)
        self.check("ab.ab", "%y%sb\nP", [(1, 6), (9, 14)], becomes="aab.abb.aab.abb", main=1)

    def test_pieces_without_bytes(self):
        self.check("abcd", "yl2Lp", [(3, 3)])
        self.check("abcd", "yl2LP", [(1, 1)])
        self.check("abcd", "y3l2HP", [(1, 1)])

    def test_carets(self):
        self.check("ab", "%y%sb\n;hp", [(1, 3)], becomes="aabb")

    def test_up_to_200_bytes(self):
        self.check("a" * 100, "%yp", [(100, 200)], becomes="a" * 200)
        self.check("a" * 100, "%yP", [(0, 100)], becomes="a" * 200)
        self.check("ab", "%y99p", [(2, 200)], becomes="ab" * 100)

    def test_nothing_is_put_in_if_it_would_be_longer(self):
        self.check("a" * 101, "%yp", [(0, 101)])
        self.check("a" * 101, "%yP", [(0, 101)])
        self.check("abc", "%y99p", [(0, 3)])
        self.check("ab.ab" + "." * 190, "%sab\nyp", [(2, 4), (7, 9)], becomes="abab.abab" + "." * 190, main=1)
        self.check("ab.ab" + "." * 192, "%sab\n2Hyp", [(0, 0), (3, 3)], main=1)
        self.check("ab.ab" + "." * 192, "%sab\nyp", [(0, 2), (3, 5)], main=1)
        self.check("a" * 200, "%y;Hp", [(200, 199)])
        self.check("ab" + "." * 197, "2l2Hyp", [(2, 0)])
        self.check("ab" + "." * 197, "2l2HyP", [(2, 0)])
        self.check("ab" + "." * 196, "2l2Hyp", [(4, 2)], becomes="abab" + "." * 196)


class Case(EditorTest):
    def test_letters(self):
        self.check("aZmQ zA", "%~", [(0, 7)], becomes="AzMq Za")
        self.check("abc", "lL~", [(1, 2)], becomes="aBc")
        self.check("abc", "%7~", [(0, 3)], becomes="ABC")
        self.check("abc", "~", [(0, 0)])
        self.check("", "~", [(0, 0)])

    def test_every_byte(self):
        every = "".join(chr(byte) for byte in range(256))
        for text in (every[:128], every[128:]):
            self.check(text, "%~", [(0, 128)], becomes="".join(s.swapcase() if s < "\x80" else s for s in text))

    def test_looks_as_before_at_several(self):
        self.check("ab ab", "%sb\n2H~", [(1, 0), (4, 3)], becomes="Ab Ab", main=1)


class ByteOfR(EditorTest):
    def test_r(self):
        self.check("abcd", "l2Lrx", [(1, 3)], becomes="axxd")
        self.check("abcd", "l2Lr", [(1, 3)], mode=3)
        self.check("abcd", "3l2Hrx", [(3, 1)], becomes="axxd")
        self.check("abcd", "rx", [(0, 0)])
        self.check("abcd", "%5rx", [(0, 4)], becomes="xxxx")

    def test_not_for_bytes_10(self):
        self.check("ab\n\ncd\n", "%rx", [(0, 7)], becomes="xx\n\nxx\n")

    def test_byte_10_is_put(self):
        self.check("abc", "lLr\n", [(1, 2)], becomes="a\nc")

    def test_27_and_127(self):
        self.check("abc", "%r" + ESC, [(0, 3)])
        self.check("abc", "%r" + ESC + "l", [(3, 3)])
        self.check("abc", "%r" + DEL, [(0, 3)], becomes=DEL * 3)

    def test_every_other_byte(self):
        for byte in range(256):
            if byte != 27:
                self.check("abc", "%r" + chr(byte), [(0, 3)], becomes=chr(byte) * 3)

    def test_several(self):
        self.check("ab.cd", "%S.\nrx", [(0, 2), (3, 5)], becomes="xx.xx", main=1)
        self.check("ab.ab", "%sb\n2Hrq", [(1, 0), (4, 3)], becomes="qb.qb", main=1)


class Insert(EditorTest):
    def test_i(self):
        self.check("abcd", "l2Li", [(1, 1)], mode=1)
        self.check("abcd", "3l2Hi", [(1, 1)], mode=1)
        self.check("abcd", "l2LiXY", [(3, 3)], becomes="aXYbcd", mode=1)
        self.check("abcd", "l2LiXY" + ESC, [(3, 3)], becomes="aXYbcd")
        self.check("ab ab", "%sb\niX", [(2, 2), (6, 6)], becomes="aXb aXb", main=1, mode=1)
        self.check("ab", "3iX" + ESC, [(1, 1)], becomes="Xab")

    def test_a(self):
        self.check("abcd", "l2La", [(3, 3)], mode=1)
        self.check("abcd", "3l2Ha", [(3, 3)], mode=1)
        self.check("abcd", "l2LaXY" + ESC, [(5, 5)], becomes="abcXYd")
        self.check("ab ab", "%sb\naX", [(3, 3), (7, 7)], becomes="abX abX", main=1, mode=1)

    def test_c(self):
        self.check("abcd", "l2Lc", [(1, 1)], becomes="ad", mode=1)
        self.check("abcd", "3l2HcXY" + ESC, [(3, 3)], becomes="aXYd")
        self.check("ab ab", "%sb\ncX" + ESC, [(2, 2), (5, 5)], becomes="aX aX", main=1)
        self.check("aab", "%sa\ncX" + ESC, [(1, 1)], becomes="Xb")
        self.check("abcd", "2LcX" + ESC + "p", [(1, 3)], becomes="Xabcd")
        self.check("", "cX", [(1, 1)], becomes="X", mode=1)

    def test_o(self):
        self.check("ab\ncd", "o", [(3, 3)], becomes="ab\n\ncd", mode=1)
        self.check("ab\ncd", "loX" + ESC, [(4, 4)], becomes="ab\nX\ncd")
        self.check("ab\ncd", "2lo", [(3, 3)], becomes="ab\n\ncd", mode=1)
        self.check("ab\ncd", "4lo", [(6, 6)], becomes="ab\ncd\n", mode=1)
        self.check("", "o", [(1, 1)], becomes="\n", mode=1)
        self.check("ab\ncd", "l3LHHo", [(3, 3)], becomes="ab\n\ncd", mode=1)
        self.check("ab\ncd", "4l3Ho", [(6, 6)], becomes="ab\ncd\n", mode=1)

    def test_o_goes_by_the_place_of_the_end(self):
        self.check("ab\ncd\nef", "xo", [(6, 6)], becomes="ab\ncd\n\nef", mode=1)
        self.check("ab\n", "xo", [(4, 4)], becomes="ab\n\n", mode=1)

    def test_o_at_several(self):
        self.check("ab\nab", "%sa\noX", [(4, 4), (9, 9)], becomes="ab\nX\nab\nX", main=1, mode=1)
        self.check("ab\nab", "%sa\no", [(3, 3), (7, 7)], becomes="ab\n\nab\n", main=1, mode=1)

    def test_o_with_several_in_one_line(self):
        self.check("aa\nb", "%sa\no", [(3, 3)], becomes="aa\n\nb", mode=1)

    def test_every_byte_is_put_in(self):
        for byte in range(256):
            if byte not in (27, 127):
                self.check("ab", "li" + chr(byte), [(2, 2)], becomes="a" + chr(byte) + "b", mode=1)

    def test_127(self):
        self.check("abcd", "2li" + DEL, [(1, 1)], becomes="acd", mode=1)
        self.check("abcd", "2li" + DEL * 5, [(0, 0)], becomes="cd", mode=1)
        self.check("", "i" + DEL, [(0, 0)], mode=1)
        self.check("a\nb", "2li" + DEL, [(1, 1)], becomes="ab", mode=1)
        self.check("abcd", "2liX" + DEL + "Y" + ESC, [(3, 3)], becomes="abYcd")

    def test_127_at_several(self):
        self.check("xa.xa", "%sa\ni" + DEL, [(0, 0), (2, 2)], becomes="a.a", main=1, mode=1)
        self.check("a.xa", "%sa\ni" + DEL, [(0, 0), (2, 2)], becomes="a.a", main=1, mode=1)
        self.check("ab", "%Sb\n;i" + DEL, [(0, 0)], becomes="", mode=1)
        self.check("aab", "%sa\na" + DEL + "X", [(1, 1)], becomes="Xb", mode=1)

    def test_27_ends_it_once(self):
        self.check("ab", "i" + ESC + ESC + "l", [(1, 1)])

    def test_keys_of_normal_mode_are_bytes_there(self):
        self.check("", "iq@.u12dd%" + ESC, [(9, 9)], becomes="q@.u12dd%")


class Bound(EditorTest):
    full = "a" * 200

    def test_200_bytes_stay_200(self):
        self.check(self.full, "ix", [(0, 0)], mode=1)
        self.check(self.full, "5lax" + ESC, [(5, 5)])
        self.check(self.full[:199], "3lix" + ESC, [(4, 4)], becomes="aaax" + "a" * 196)
        self.check(self.full[:199], "3lixy" + ESC, [(4, 4)], becomes="aaax" + "a" * 196)

    def test_room_again_after_127(self):
        self.check(self.full, "3li" + DEL + "xy" + ESC, [(3, 3)], becomes="aax" + "a" * 197)

    def test_all_or_none(self):
        text = "b.b" + "a" * 195
        self.check(text, "%sb\nix", [(1, 1), (4, 4)], becomes="xb.xb" + "a" * 195, main=1, mode=1)
        self.check(text + "a", "%sb\nix", [(0, 0), (2, 2)], main=1, mode=1)
        self.check(text + "a", "%sb\n,ix", [(3, 3)], becomes="b.xb" + "a" * 196, mode=1)

    def test_o_without_room(self):
        self.check(self.full, "5l3Lo", [(200, 200)], mode=1)
        self.check("ab\n" + self.full[:197], "lo", [(2, 2)], mode=1)
        self.check("ab\n" + self.full[:197], "lox" + DEL, [(1, 1)], becomes="a\n" + self.full[:197], mode=1)
        self.check("ab\n" + self.full[:196], "lo", [(3, 3)], becomes="ab\n\n" + self.full[:196], mode=1)

    def test_exchanged_for_as_many(self):
        self.check(self.full, "%~", [(0, 200)], becomes="A" * 200)
        self.check(self.full, "%rx", [(0, 200)], becomes="x" * 200)

    def test_thirty_at_once(self):
        text = "ab" * 30
        seen = Seen(text, "%sb\nix" + ESC)
        self.assertEqual(seen.text, "axb" * 30)
        self.assertEqual(seen.sels, [(3 * k + 2, 3 * k + 2) for k in range(30)])
        self.check_text("ab" * 30 + "a" * 110, "%sb\nix", "axb" * 30 + "a" * 110)
        self.check_text("ab" * 30 + "a" * 111, "%sb\nix", "ab" * 30 + "a" * 111)


if __name__ == "__main__":
    unittest.main()
