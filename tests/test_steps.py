"""The call steps: how many can be undone, how many done again, the count."""

import unittest

from keyeditor.editor import answers
from tests.helper import DEL, ESC, STEPS, EditorTest, ask, keys_call, text_call


class Form(unittest.TestCase):
    def test_three_numbers(self):
        self.assertEqual(answers([6]), [3, 0, 0, 0])
        self.assertEqual(ask(text_call("abc"), keys_call("LdLdLdu17"), STEPS)[-1], [2, 1, 17])

    def test_asking_changes_nothing(self):
        given = ask(text_call("abc"), keys_call("Ld1"), STEPS, STEPS, keys_call("2"), STEPS, keys_call("u"), STEPS)
        self.assertEqual([given[k] for k in (2, 3, 5, 7)], [[1, 0, 1], [1, 0, 1], [1, 0, 12], [0, 1, 0]])


class StepsTest(EditorTest):
    def check_steps(self, text, keys, undone, again, count=0):
        self.check_told(text, keys, undone=undone, again=again, count=count)


class Undone(StepsTest):
    def test_no_change(self):
        for keys in ("", "l", "3L", "%y", "%sa\n", "/b\n", "z", "Z", "qq", "u", "U", "9u9U", ".", "@", "p", ";d", "rx",
                     "ix" + DEL + ESC, "i" + ESC, "Lra", "%cabc" + ESC, "%r" + ESC, "v", ESC):
            self.check_steps("abc", keys, 0, 0)

    def test_one_command(self):
        for keys in ("Ld", "L~", "Lrx", "ixyz" + ESC, "axy" + DEL + ESC, "o" + ESC, "2Lcx" + ESC, "Ly3p", "%sb\nd",
                     "LyP", "Ld;ddd", "%dip" + DEL + ESC):
            self.check_steps("abc", keys, 1, 0)

    def test_several_commands(self):
        self.check_steps("abcdef", "LdLd", 2, 0)
        self.check_steps("abcdef", "LdLrxix" + ESC + "%~o" + ESC, 5, 0)
        self.check_steps("abcdef", "%" + "~" * 50, 50, 0)

    def test_only_when_through(self):
        self.check_steps("abc", "ixyz", 0, 0)
        self.check_steps("abc", "Ldixyz", 1, 0)
        self.check_steps("abc", "Ldixyz" + ESC, 2, 0)
        self.check_steps("abc", "Lc", 0, 0)
        self.check_steps("abc", "o", 0, 0)

    def test_undoing(self):
        self.check_steps("abcdef", "LdLdLdu", 2, 1)
        self.check_steps("abcdef", "LdLdLduu", 1, 2)
        self.check_steps("abcdef", "LdLdLd2u", 1, 2)
        self.check_steps("abcdef", "LdLdLd3u", 0, 3)

    def test_beyond_what_is_there(self):
        self.check_steps("abcdef", "LdLdLd4u", 0, 3)
        self.check_steps("abcdef", "LdLdLd99uu", 0, 3)
        self.check_steps("abcdef", "LdLdLd2u3U", 3, 0)
        self.check_steps("abcdef", "LdLdLd9u99UU", 3, 0)

    def test_done_again(self):
        self.check_steps("abcdef", "LdLdLd3uU", 1, 2)
        self.check_steps("abcdef", "LdLdLd3u2U", 2, 1)
        self.check_steps("abcdef", "LdLdLd3u2Uu", 1, 2)
        self.check_steps("abcdef", "LdLdLdU", 3, 0)

    def test_a_change_behind_undoing(self):
        self.check_steps("abcdef", "LdLdLd2u~", 2, 0)
        self.check_steps("abcdef", "LdLdLd3uix" + ESC, 1, 0)
        self.check_steps("abcdef", "LdLdLd2u.", 2, 0)

    def test_not_yet_through_behind_undoing(self):
        self.check_steps("abcdef", "LdLdLd2uix", 1, 2)
        self.check_steps("abcdef", "LdLdLd2uix" + ESC, 2, 0)

    def test_no_change_behind_undoing(self):
        for keys in ("l", ";d", "y", "%sb\n", "3" + ESC, "qq", "ix" + DEL + ESC, "r" + ESC, "/b\n", "z", "Z", "N"):
            self.check_steps("abcdef", "LdLdLd2u" + keys, 1, 2)

    def test_not_undone_by_the_letter_elsewhere(self):
        self.check_steps("abcdef", "LdLruiuU" + ESC, 3, 0)
        self.check_steps("abcdef", "Ld/u\nsu" + ESC, 1, 0)


class Played(StepsTest):
    def test_the_dot(self):
        self.check_steps("", "iab" + ESC + ".", 2, 0)
        self.check_steps("", "iab" + ESC + "3.", 4, 0)
        self.check_steps("", "iab" + ESC + "3.2u", 2, 2)
        self.check_steps("", "iab" + ESC + "3.2u.", 3, 0)

    def test_the_dot_that_changes_nothing(self):
        self.check_steps("abcdef", "Ld9.", 1, 0)
        self.check_steps("abcdef", "LdLdu;.", 1, 1)

    def test_a_macro(self):
        self.check_steps("abcdef", "qLdq", 1, 0)
        self.check_steps("abcdef", "qLdq3@", 4, 0)
        self.check_steps("abcdef", "qLdq3@2u", 2, 2)
        self.check_steps("abcdefgh", "qLdLdq2@", 6, 0)
        self.check_steps("abc", "qLdq9@", 3, 0)

    def test_a_macro_that_undoes(self):
        self.check_steps("abcdef", "qLdLduq", 1, 1)
        self.check_steps("abcdef", "qLdLduq@", 2, 1)
        self.check_steps("abcdef", "LdLdLdquq2@", 0, 3)
        self.check_steps("abcdef", "LdLdLd3uqUq@", 2, 1)

    def test_a_macro_that_plays_the_dot(self):
        self.check_steps("", "ix" + ESC + "q.q3@", 5, 0)
        self.check_steps("", "ix" + ESC + "q2.q3@", 9, 0)

    def test_no_more_than_500_keys(self):
        # 1 for the dot and 55 times nine keys; the four that are left do not bring the next one through.
        insert = "izzz" + DEL * 3 + "1" + ESC
        self.check_steps("", insert + "55.", 56, 0)
        self.check_steps("", insert + "99.", 56, 0)
        self.check_steps("", insert + "99." + ESC, 57, 0)
        self.check_steps("a", "%q~q99@", 100, 0)
        self.check_steps("a", "%q~~~~~~~~~~q99@", 509, 0)

    def test_many_steps(self):
        self.check_steps("a", "%q~~~~~~~~~~q" + "99@" * 20, 9990, 0)
        self.check_steps("a", "%q~~~~~~~~~~q" + "99@" * 2 + "99u" * 11, 0, 1008)


class Count(StepsTest):
    def test_digits(self):
        for keys, count in (("1", 1), ("9", 9), ("12", 12), ("10", 10), ("90", 90), ("98", 98), ("99", 99),
                            ("100", 99), ("105", 99), ("990", 99), ("999", 99), ("123456789", 99)):
            self.check_steps("abc", keys, 0, 0, count)

    def test_0_without_digits_ahead(self):
        self.check_steps("abc", "0", 0, 0, 0)
        self.check_steps("abc", "00", 0, 0, 0)
        self.check_steps("abc", "05", 0, 0, 5)
        self.check_steps("abc", "0500", 0, 0, 99)
        self.check_steps("abc", "3l0", 0, 0, 0)

    def test_after_the_command_is_through(self):
        for key in "hljkwbHLJKWBx%;,)dypP~nNzZuU.@vq" + ESC + DEL + "\n":
            self.check_told("abc", "3" + key, count=0)
        for keys in ("i" + ESC, "ax" + ESC, "c" + ESC, "o" + ESC, "rx", "r" + ESC, "sa\n", "S\n", "/" + ESC):
            self.check_told("abc", "3" + keys, count=0)

    def test_in_the_midst_of_a_command(self):
        for keys in ("i", "a", "c", "o", "ix", "i5", "a" + DEL, "r", "s", "S", "/", "s5", "/7" + DEL, "iq", "/q"):
            self.check_told("abc", "14" + keys, count=14)
            self.check_told("abc", keys, count=0)

    def test_begins_anew(self):
        self.check_told("abc", "3l2", count=2)
        self.check_told("abc", "3" + ESC + "2", count=2)
        self.check_told("abc", "3q2", count=2)
        self.check_told("abc", "3i4" + ESC + "5", count=5)

    def test_left_by_played_keys(self):
        self.check_told("abc", "q3q", count=0)
        self.check_told("abc", "q3q@", count=3)
        self.check_told("abc", "q3q@0", count=30)
        self.check_told("abc", "q3q2@", count=33)
        self.check_told("abc", "q3q@@", count=99)
        self.check_told("abc", "q3q@l", count=0)

    def test_left_where_played_keys_are_dropped(self):
        # Each time ) 7 6 @ are four keys: @, 124 times these, and ) 7 6.
        self.check_told("abc", "q)76@q@", count=76)


if __name__ == "__main__":
    unittest.main()
