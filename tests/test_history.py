"""Undoing, doing again, and the dot."""

import random
import unittest

from tests.helper import DEL, ESC, EditorTest, Seen


class Undone(EditorTest):
    def test_nothing_to_undo(self):
        self.check("abc", "lLu", [(1, 2)])
        self.check("abc", "lLU", [(1, 2)])
        self.check("abc", "9u9U", [(0, 0)])

    def test_text_and_selections_come_back(self):
        self.check("abcdef", "4l2Hdu", [(4, 2)])
        self.check("abcdef", "4l2Hdhhu", [(4, 2)])
        self.check("ab ab", "%sb\n)du", [(1, 2), (4, 5)], main=0)
        self.check("ab ab", "%sb\n)d%u", [(1, 2), (4, 5)], main=0)

    def test_one_key_undoes_one_command(self):
        self.check("abc", "ixyz" + ESC + "u", [(0, 0)])
        self.check("abc", "lLcxyz" + ESC + "u", [(1, 2)])
        self.check("abc", "2Laxy" + DEL + "z" + ESC + "u", [(0, 2)])
        self.check("abc", "lox" + ESC + "u", [(1, 1)])
        self.check("abc", "2Lrxu", [(0, 2)])
        self.check("abc", "2L~u", [(0, 2)])
        self.check("abc", "2Ly3pu", [(0, 2)])
        self.check("abc", "2LyPu", [(0, 2)])

    def test_with_counts(self):
        text = "abcdef"
        self.check_text(text, "LdLdLd", "def")
        self.check(text, "LdLdLdu", [(0, 1)], becomes="cdef")
        self.check(text, "LdLdLduu", [(0, 1)], becomes="bcdef")
        self.check(text, "LdLdLd2u", [(0, 1)], becomes="bcdef")
        self.check(text, "LdLdLd3u", [(0, 1)])
        self.check(text, "LdLdLd99u", [(0, 1)])

    def test_done_again(self):
        self.check("abcdef", "LdLdLd3uU", [(0, 1)], becomes="bcdef")
        self.check("abcdef", "LdLdLd3u2U", [(0, 1)], becomes="cdef")
        self.check("abcdef", "LdLdLd3u3U", [(0, 0)], becomes="def")
        self.check("abcdef", "LdLdLd3u99U", [(0, 0)], becomes="def")
        self.check("abcdef", "LdLdLd3u9Uu", [(0, 1)], becomes="cdef")

    def test_what_is_now_comes_back(self):
        # U brings the selections as they were when u was pressed, and u those when U was pressed.
        self.check("abcdef", "Ldl2Lu", [(0, 1)])
        self.check("abcdef", "Ldl2LuU", [(1, 3)], becomes="bcdef")
        self.check("abcdef", "Ldl2Lu3lU", [(1, 3)], becomes="bcdef")
        self.check("abcdef", "Ldl2Lu3lUu", [(4, 4)])
        self.check("abcdef", "Ldl2Lu3lUuU", [(1, 3)], becomes="bcdef")

    def test_nothing_to_do_again_after_a_change(self):
        self.check("abcdef", "Ldu4lLdU", [(5, 5)], becomes="abcde")
        self.check("abcdef", "LdLd2u~U", [(0, 1)], becomes="Abcdef")

    def test_still_to_do_again_if_the_text_is_the_same(self):
        self.check_text("abcdef", "Ldulix" + DEL + ESC + "U", "bcdef")
        self.check_text("abcdef", "Ldu;dU", "bcdef")
        self.check_text("abcdef", "LduyU", "bcdef")
        self.check_text("abcdef", "Ldu%sb\nz3l" + ESC + "qqU", "bcdef")
        self.check_text("abcdef", "Ldu%cabcdef" + ESC + "U", "bcdef")

    def test_no_step_if_the_text_is_the_same(self):
        self.check("abc", "Ldlix" + DEL + ESC + "u", [(0, 1)])
        self.check("abc", "Ld;d;du", [(0, 1)])
        self.check("abc", "LdLrbu", [(0, 1)])
        self.check("abc", "Ldl%cbc" + ESC + "u", [(0, 1)])

    def test_changes_in_between(self):
        self.check_text("abcdef", "LdLduLrx", "xxdef")
        self.check_text("abcdef", "LdLduLrxu", "bcdef")
        self.check_text("abcdef", "LdLduLrxuu", "abcdef")
        self.check_text("abcdef", "LdLduLrxuuUU", "xxdef")
        self.check_text("abcdef", "LdLduLrxuuUUU", "xxdef")

    def test_undoing_is_no_step(self):
        self.check_text("abcdef", "LdLduuU", "bcdef")
        self.check_text("abcdef", "LdLd2uUuUuu", "abcdef")

    def test_in_insert_mode_u_is_a_byte(self):
        self.check("ab", "Ldiu" + ESC, [(1, 1)], becomes="ub")

    def test_all_undone_is_as_at_first(self):
        chance = random.Random(5)
        commands = ("l", "h", "2L", "w", "d", "~", "%sa\n", "ixy" + ESC, "rz", "y", "2p", "o" + ESC, "u", "U", ".",
                    "c" + ESC, "x", "%Sb\n", "z", "Z", "qwq", "@")
        for time in range(150):
            text = "".join(chance.choice("aab \n") for place in range(30))
            keys = "".join(chance.choice(commands) for place in range(40))
            self.check_text(text, keys + "99u99u99u", text)
            self.assertEqual(Seen(text, keys + "99u99U").text, Seen(text, keys + "99U").text)


class LastChange(EditorTest):
    def test_nothing_changed_yet(self):
        self.check("abc", "lL.", [(1, 2)])
        self.check("abc", "lL9.", [(1, 2)])

    def test_where_one_is_now(self):
        self.check("abcdef", "Ldl2L.", [(1, 1)], becomes="bef")
        self.check("ab ab", "iX" + ESC + "w.", [(5, 5)], becomes="Xab Xab")
        self.check("abc abc", "Lrx%sb\n.", [(1, 2), (5, 6)], becomes="xxc axc", main=1)

    def test_with_counts(self):
        self.check("", "iab" + ESC + "3.", [(8, 8)], becomes="abababab")
        self.check("", "iab" + ESC + "12.", [(26, 26)], becomes="ab" * 13)
        self.check("ab", "Ly2p.", [(3, 5)], becomes="aaaaab")
        self.check("ab", "Ly2p2.", [(5, 7)], becomes="aaaaaaab")

    def test_keys_of_the_count_belong_to_it(self):
        self.check("a", "%y10p.", [(11, 21)], becomes="a" * 21)
        self.check("a", "%y100p.", [(100, 199)], becomes="a" * 199)
        self.check("a", "%y99p99p.", [(100, 199)], becomes="a" * 199)

    def test_inserts(self):
        self.check("ab", "ixyz" + DEL + ESC + ".", [(4, 4)], becomes="xyxyab")
        self.check("ab cd", "%sb\ncX" + ESC + "wL.", [(4, 4)], becomes="aX Xd")
        self.check("a\nb", "oX" + ESC + "j.", [(7, 7)], becomes="a\nX\nb\nX")
        self.check("ab", "LaX" + ESC + "L.", [(4, 4)], becomes="aXbX")

    def test_no_prompt_is_a_change(self):
        self.check("abab", "Ld%sb\n.", [(0, 0), (1, 1)], becomes="a", main=1)
        self.check("abab", "Ld/b\n.", [(0, 0)], becomes="ab")

    def test_a_command_that_changed_nothing_is_not_it(self):
        self.check_text("abcdef", "LrxldL.", "xbxdef")
        self.check_text("abcdef", "Lrxliz" + DEL + ESC + "L.", "xbxdef")

    def test_undoing_is_not_it(self):
        self.check_text("abcdef", "LdLrxu.", "xcdef")
        self.check_text("abcdef", "LdLrxuUlL.", "xcxef")

    def test_what_is_given_up_is_not_in_it(self):
        self.check("a", "%y9" + ESC + "p.", [(2, 3)], becomes="aaa")
        self.check("a", "%y9qp.", [(2, 3)], becomes="aaa")
        self.check("a", "%y9vp.", [(2, 3)], becomes="aaa")

    def test_each_is_a_step_by_itself(self):
        self.check("", "iab" + ESC + "3.u", [(6, 6)], becomes="ababab")
        self.check("", "iab" + ESC + "3.4u", [(0, 0)])
        self.check("", "iab" + ESC + "3.4u2U", [(4, 4)], becomes="abab")

    def test_it_stays_the_last_change(self):
        self.check("abcdef", "Lrx;.L.lL.", [(3, 4)], becomes="xxcxef")

    def test_nothing_to_do_again_after_it(self):
        self.check_text("abcdef", "LdLdu3lL.U", "bcde")


class CutOff(EditorTest):
    # Nine keys that put in one byte. 1 for the dot and 55 times nine are 496; four more are done: i z z z.
    insert = "izzz" + DEL * 3 + "1" + ESC

    def test_500_keys_at_most(self):
        self.check("", self.insert + "55.", [(56, 56)], becomes="1" * 56)
        self.check("", self.insert + "56.", [(59, 59)], becomes="1" * 56 + "zzz", mode=1)
        self.check("", self.insert + "99.", [(59, 59)], becomes="1" * 56 + "zzz", mode=1)

    def test_others_are_dropped(self):
        self.check("", self.insert + "99.9", [(60, 60)], becomes="1" * 56 + "zzz9", mode=1)

    def test_what_is_under_way_goes_on(self):
        cut_and_ended = self.insert + "99.9" + ESC
        self.check("", cut_and_ended + ".", [(64, 64)], becomes="1" * 56 + "zzz9zzz9")
        self.check("", cut_and_ended + "u", [(56, 56)], becomes="1" * 56)
        self.check("", cut_and_ended + "2u", [(55, 55)], becomes="1" * 55)

    def test_each_that_is_pressed_has_500(self):
        self.check("", self.insert + "55.55.", [(111, 111)], becomes="1" * 111)


if __name__ == "__main__":
    unittest.main()
