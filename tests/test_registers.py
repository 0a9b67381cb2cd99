"""The call registers: the pieces, what is searched, the last change."""

import unittest

from keyeditor.editor import answers
from tests.helper import DEL, ESC, REGISTERS, EditorTest, ask, keys_call, numbers, text_call


class Form(unittest.TestCase):
    def test_nothing_there(self):
        self.assertEqual(answers([4]), [3, 0, 0, 0])

    def test_number_by_number(self):
        given = ask(text_call("ab.cde"), keys_call("%S.\nd"), keys_call("/.\n"), REGISTERS)
        self.assertEqual(given[-1], [2, 2, 97, 98, 3, 99, 100, 101, 1, 46, 1, 100])

    def test_piece_without_bytes(self):
        self.assertEqual(ask(keys_call("y"), REGISTERS)[-1], [1, 0, 0, 0])

    def test_every_byte(self):
        row = list(range(56, 256))
        self.assertEqual(ask(text_call(row), keys_call("%y"), REGISTERS)[-1], [1, 200] + row + [0, 0])
        keys = [47, 0, 255, 113, 10]
        self.assertEqual(ask(keys_call(keys), REGISTERS)[-1], [0, 3, 0, 255, 113, 0])
        keys = [105, 0, 255, 113, 10, 127, 27]
        self.assertEqual(ask(keys_call(keys), REGISTERS)[-1], [0, 0, 7] + keys)

    def test_asked_twice(self):
        given = ask(text_call("ab"), keys_call("Ld/b\n"), REGISTERS, REGISTERS, keys_call("l"), REGISTERS)
        self.assertEqual(given[2], [1, 1, 97, 1, 98, 1, 100])
        self.assertEqual(given[3], given[2])
        self.assertEqual(given[5], given[2])


class Pieces(EditorTest):
    def test_none(self):
        for keys in ("", "lL", "%", "p", "P", "%~", "Lrx", "ixy" + ESC, "/b\n", "z", "i" + DEL):
            self.check_told("abc", keys, pieces=[])

    def test_one(self):
        for keys in ("l2Ld", "l2Ly", "l2Lc", "l2LcX" + ESC, "3l2Hd", "3l2Hy", "3l2Hc"):
            self.check_told("abcd", keys, pieces=["bc"])

    def test_several(self):
        for keys in ("d", "y", "c", "cX" + ESC, "9d", "3y"):
            self.check_told("ab ac", "%sa\nL" + keys, pieces=["ab", "ac"])
            self.check_told("ab ac", "%sa\n)L" + keys, pieces=["ab", "ac"])
            self.check_told("ab ac", "%sa\nL,y%sa\n" + keys, pieces=["a", "a"])

    def test_without_bytes(self):
        for key in "dyc":
            self.check_told("abc", key, pieces=[""])
            self.check_told("", key, pieces=[""])
            self.check_told("..", "%S.\n" + key, pieces=["", "", ""])
            self.check_told(".a.", "%S.\n" + key, pieces=["", "a", ""])

    def test_at_carets_alone_instead_of_others(self):
        for key in "dyc":
            self.check_told("abc", "2Ly;" + key, pieces=[""])

    def test_as_many_as_there_were(self):
        self.check_told("aab", "%sa\nd", pieces=["a", "a"])
        self.check_told("ab" * 30, "%sb\ny", pieces=["b"] * 30)

    def test_instead_of_others(self):
        self.check_told("ab ac", "%sa\nd%y", pieces=["b c"])
        self.check_told("ab ac", "%y%sa\nd", pieces=["a", "a"])

    def test_not_changed_by_others(self):
        for keys in ("p", "P", "3p", "9P", "~", "rx", "ixy" + ESC, "ax" + DEL + ESC, "ox" + ESC, "/a\n", "n", "N",
                     "z", "Z", "u", "2U", "qlq", "@", ",", "%sa\n", "x", "5", ESC):
            self.check_told("ab ac", "%sa\nLy" + keys, pieces=["ab", "ac"])

    def test_not_undone(self):
        self.check_told("abc", "2Ldu", pieces=["ab"])
        self.check_told("abc", "LdLdu", pieces=["b"])
        self.check_told("abc", "LdLduU", pieces=["b"])

    def test_anew_by_what_is_played(self):
        self.check_told("abcdef", "LdL.", pieces=["b"])
        self.check_told("abcdef", "qLyq2l@", pieces=["d"])
        self.check_told("abcdef", "qLdq3@", pieces=["d"])

    def test_letters_that_are_no_commands(self):
        self.check_told("abc", "2Ly;idyc" + ESC + "L/dy" + ESC + "rd", pieces=["ab"])

    def test_given_up(self):
        self.check_told("abc", "2Lyl3" + ESC, pieces=["ab"])


class Searched(EditorTest):
    def test_nothing(self):
        for keys in ("", "n", "N", "%sb\n", "%Sb\n", "ib\n" + ESC):
            self.check_told("abc", keys, searched="")

    def test_answered(self):
        self.check_told("abc", "/bc\n", searched="bc")
        self.check_told("abc", "3/bc\n", searched="bc")
        self.check_told("abc", "/12q@.\n", searched="12q@.")

    def test_not_before_it_is_answered(self):
        self.check_told("abc", "/", searched="")
        self.check_told("abc", "/bc", searched="")
        self.check_told("abc", "/b\n/c", searched="b")

    def test_taken_away(self):
        self.check_told("abc", "/bc" + DEL + "\n", searched="b")
        self.check_told("abc", "/x" + DEL * 3 + "c\n", searched="c")

    def test_left_by_27(self):
        self.check_told("abc", "/bc" + ESC, searched="")
        self.check_told("abc", "/bc" + ESC + "\n", searched="")
        self.check_told("abc", "/b\n/c" + ESC, searched="b")

    def test_answered_without_bytes(self):
        self.check_told("abc", "/\n", searched="")
        self.check_told("abc", "/b\n/\n", searched="b")
        self.check_told("abc", "/b\n/c" + DEL + "\n", searched="b")

    def test_nowhere(self):
        self.check_told("abc", "/x\n", searched="x")
        self.check_told("abc", "/b\n/xyz\n", searched="xyz")
        self.check_told("", "/b\n", searched="b")

    def test_stays(self):
        for keys in ("n", "N", "n3n", "%sa\n", "%Sc\n", "Ld", "Ldu", "z", "Z", "qq", "@", ".", "ix" + ESC):
            self.check_told("abc", "/b\n" + keys, searched="b")

    def test_instead_of_another(self):
        self.check_told("abc", "/b\n/c\n", searched="c")

    def test_played(self):
        self.check_told("abc", "q/b\nq/c\n@", searched="b")

    def test_no_step_and_no_last_change(self):
        self.check_told("abc", "/b\n", undone=0, last_change="")
        self.check_told("abc", "Ld/b\n", undone=1, last_change="d")


class LastChange(EditorTest):
    def test_none(self):
        for keys in ("", "l", "3L", "%y", "z", "/b\n", "%sb\n", "u", "U", ".", "@", "qq", "3" + ESC, "0", "p"):
            self.check_told("abc", keys, last_change="")

    def test_commands(self):
        self.check_told("abc", "Ld", last_change="d")
        self.check_told("abc", "Lyp", last_change="p")
        self.check_told("abc", "LyP", last_change="P")
        self.check_told("abc", "L~", last_change="~")
        self.check_told("abc", "Lrx", last_change="rx")
        self.check_told("abc", "Lr\n", last_change="r\n")
        self.check_told("abc", "Lrq", last_change="rq")
        self.check_told("abc", "Lr" + DEL, last_change="r" + DEL)

    def test_inserts(self):
        self.check_told("abc", "Lixy" + ESC, last_change="ixy" + ESC)
        self.check_told("abc", "Laxy" + ESC, last_change="axy" + ESC)
        self.check_told("abc", "Lc" + ESC, last_change="c" + ESC)
        self.check_told("abc", "Lcxy" + ESC, last_change="cxy" + ESC)
        self.check_told("abc", "o" + ESC, last_change="o" + ESC)
        self.check_told("abc", "ix" + DEL + "y" + ESC, last_change="ix" + DEL + "y" + ESC)
        self.check_told("abc", "i.@qu3d" + ESC, last_change="i.@qu3d" + ESC)
        self.check_told("abc", "li" + DEL + ESC, last_change="i" + DEL + ESC)

    def test_with_counts(self):
        self.check_told("abc", "Ly3p", last_change="3p")
        self.check_told("abc", "Ly10P", last_change="10P")
        self.check_told("abc", "Ly120p", last_change="120p")
        self.check_told("abc", "Ly007p", last_change="7p")
        self.check_told("abc", "2L3d", last_change="3d")
        self.check_told("abc", "2L4~", last_change="4~")
        self.check_told("abc", "2L5rx", last_change="5rx")
        self.check_told("abc", "25ix" + ESC, last_change="25ix" + ESC)

    def test_a_prompt_ahead_is_not_in_it(self):
        self.check_told("abab", "%sb\nd", last_change="d")
        self.check_told("abab", "%3sb\n2d", last_change="2d")
        self.check_told("abab", "/b\ncx" + ESC, last_change="cx" + ESC)
        self.check_told("abab", "%sb" + ESC + "d", last_change="d")

    def test_what_was_given_up_is_not_in_it(self):
        for ahead in ("3" + ESC, "3q", "3v", "0", "3l", "3y", "3n", "r" + ESC):
            self.check_told("aaaa", "Ly" + ahead + "p", last_change="p")

    def test_the_newest(self):
        self.check_told("abcdef", "LdLrx", last_change="rx")
        self.check_told("abcdef", "LdLrx%~", last_change="~")

    def test_not_before_it_is_through(self):
        self.check_told("abc", "Ldix", last_change="d")
        self.check_told("abc", "Ldix" + ESC, last_change="ix" + ESC)
        self.check_told("abc", "Ldo", last_change="d")
        self.check_told("abc", "LdLr", last_change="d")
        self.check_told("abc", "LdL3", last_change="d")

    def test_text_as_it_was(self):
        for keys in (";d", "Lrb", ";rx", ";~", "ix" + DEL + ESC, "i" + ESC, "%cbc" + ESC, ";yp", "i" + DEL + ESC,
                     "Lr" + ESC, "%y", "x", "z", "Z", "/b\n", "N"):
            self.check_told("abc", "Ld" + keys, last_change="d")
            self.check_told("bc", keys, last_change="")

    def test_no_room(self):
        full = "a" * 200
        self.check_told(full, "ix" + ESC, last_change="", undone=0)
        self.check_told(full, "%yp", last_change="", undone=0)
        self.check_told(full, "o" + ESC, last_change="", undone=0)
        self.check_told(full, "%~ix" + ESC, last_change="~", undone=1)

    def test_after_the_dot(self):
        self.check_told("abcdef", "LdL.", last_change="d", undone=2)
        self.check_told("abcdef", "iab" + ESC + ".", last_change="iab" + ESC, undone=2)
        self.check_told("abcdef", "Ly2p3.", last_change="2p", undone=4)
        self.check_told("abcdef", "Ld;.", last_change="d", undone=1)

    def test_after_a_macro(self):
        self.check_told("abcdef", "qLdq%~2h@", last_change="d")
        self.check_told("abcdef", "qLdL~q2@", last_change="~")
        self.check_told("abcdef", "qLy2pq%d3@", last_change="d")
        self.check_told("abcdef", "qLy2pq%~99h3@", last_change="2p")
        self.check_told("abcdef", "Ldqlq9@", last_change="d")

    def test_after_a_macro_that_plays_the_dot(self):
        self.check_told("abcdef", "LdqL.qLrx@", last_change="rx", undone=4)

    def test_after_undoing(self):
        self.check_told("abcdef", "LdLrxu", last_change="rx")
        self.check_told("abcdef", "LdLrx2u", last_change="rx")
        self.check_told("abcdef", "LdLrx2uU", last_change="rx")
        self.check_told("abcdef", "LdLrx2u9U", last_change="rx")

    def test_begun_by_a_macro_and_ended_by_hand(self):
        self.check_told("a", "Lyq3q@p", last_change="3p")
        self.check_told("abc", "qixq" + ESC + "q", last_change="ixq" + ESC)
        macro = "qizzz" + DEL * 3 + ESC + "q"
        self.check_told("ab", macro + "99@k" + ESC, last_change="izzk" + ESC)

    def test_begun_by_the_dot_and_ended_by_hand(self):
        insert = "izzz" + DEL * 3 + "1" + ESC
        self.check_told("", insert + "99.", last_change=insert)
        self.check_told("", insert + "99.9" + ESC, last_change="izzz9" + ESC)

    def test_not_by_27_q_and_keys_that_do_nothing(self):
        for keys in (ESC, "q", "qq", "v", "3v", "0", "\n", DEL):
            self.check_told("abc", "Ld" + keys, last_change="d")

    def test_long_over_several_calls(self):
        inserted = "i" + "ab" * 50 + ESC
        self.check_told("", inserted, last_change=inserted)
        self.assertEqual(ask(keys_call(inserted[:60]), keys_call(inserted[60:]), REGISTERS)[-1],
                         [0, 0, 102] + numbers(inserted))


if __name__ == "__main__":
    unittest.main()
