"""Keys recorded and played."""

import random
import unittest

from tests.helper import DEL, ESC, EditorTest, Seen

# With 30 selections, the last one main, each key ) is to be seen in which one is main.
THIRTY = "ab" * 30
CHOOSE = "%sb\n"


class Recorded(EditorTest):
    def test_nothing_recorded(self):
        self.check("abc", "lL@", [(1, 2)])
        self.check("abc", "lLqq@9@", [(1, 2)])

    def test_keys_are_done_while_recorded(self):
        self.check("abcdef", "q2l", [(2, 2)])
        self.check("abcdef", "q2lq", [(2, 2)])

    def test_played(self):
        self.check("abcdef", "q2lq@", [(4, 4)])
        self.check("a.b.c.d", "qLrxlq@", [(4, 4)], becomes="x.x.c.d")
        self.check("a.b.c.d", "qLrxlq3@", [(7, 7)], becomes="x.x.x.x")

    def test_with_counts(self):
        self.check("a" * 99, "qlq5@", [(6, 6)])
        self.check("a" * 99, "qlq12@", [(13, 13)])
        self.check("a" * 99, "q2lq12@", [(26, 26)])

    def test_only_what_was_recorded_till_q(self):
        self.check("a" * 9, "lqlq3l@", [(6, 6)])
        self.check("a" * 9, "ql@q", [(1, 1)])
        self.check("a" * 9, "qlqqllq@", [(5, 5)])

    def test_the_old_macro_plays_while_another_is_recorded(self):
        self.check("a" * 30, "q3lqql@q", [(7, 7)])
        self.check("a" * 30, "q3lqql@", [(7, 7)])

    def test_recording_nothing_makes_a_macro_without_keys(self):
        self.check("a" * 9, "qlqqq@", [(1, 1)])

    def test_q_gives_up_the_count(self):
        self.check("a" * 9, "3qlq", [(1, 1)])
        self.check("a" * 9, "ql3ql", [(2, 2)])

    def test_digits_ahead_of_q_are_recorded_if_recording(self):
        self.check("a" * 30, "ql3q@l", [(5, 5)])
        self.check("a" * 30, "3qlq@", [(2, 2)])
        # The second @ has the count 3, so 3 3 3 come, which is 99 at most.
        self.check("a" * 200, "q3q@@l", [(99, 99)])

    def test_q_in_other_modes_is_a_byte(self):
        self.check("ab", "iq" + ESC, [(1, 1)], becomes="qab")
        self.check("ab", "Lrq", [(0, 1)], becomes="qb")
        self.check("aqb", "/q\n", [(1, 2)])
        self.check("aqbq", "%sq\n", [(1, 2), (3, 4)], main=1)

    def test_q_in_other_modes_is_recorded(self):
        self.check("ab", "qiq" + ESC + "q@", [(2, 2)], becomes="qqab")
        self.check("ab", "qLrqq@", [(0, 2)], becomes="qq")
        self.check("aqbqc", "q/q\nq@", [(3, 4)])

    def test_every_pressed_key_is_recorded(self):
        self.check("abab", "q%sa" + DEL + "b\nq%@", [(1, 2), (3, 4)], main=1)
        self.check("ab", "qix" + DEL + "y" + ESC + "q@", [(2, 2)], becomes="yyab")
        self.check("ab", "qv3" + ESC + "lq@", [(2, 2)])

    def test_recording_goes_on_over_calls(self):
        self.check("a" * 150, "q" + "l" * 70 + "q@", [(140, 140)])

    def test_only_pressed_keys_are_recorded(self):
        # The second macro is @ l, not what came of @, so it plays itself and never comes to l.
        self.check("a" * 30, "q3lqq@lqh@", [(6, 6)])

    def test_the_dot_is_recorded_as_itself(self):
        # The change is another one when the macro is played.
        self.check("", "ia" + ESC + "q.qib" + ESC + "@", [(4, 4)], becomes="aabb")

    def test_steps_of_what_is_played(self):
        self.check("abcdef", "qLdq@u", [(0, 1)], becomes="bcdef")
        self.check("abcdef", "qLdq3@u", [(0, 1)], becomes="def")
        self.check("abcdef", "qLdq3@4u", [(0, 1)])
        self.check("abcdef", "qLdLdq@u", [(0, 1)], becomes="def")

    def test_last_change_of_what_is_played(self):
        self.check("abcdef", "q2Ldq@L.", [(0, 0)], becomes="f")
        self.check("abcdef", "qLrxlq;/f\n@%.", [(0, 6)], becomes="x" * 6)

    def test_undone_within(self):
        self.check("abcdef", "qLduq@", [(0, 2)])
        self.check("abcdef", "LdLdquq", [(0, 1)], becomes="bcdef")
        self.check("abcdef", "LdLdquq@", [(0, 1)])

    def test_played_keys_are_pressed_keys(self):
        chance = random.Random(3)
        commands = ("l", "h", "2L", "3H", "w", "d", "~", "%sa\n", "ixy" + ESC, "rz", "y", "2p", "o" + ESC, "u", "U",
                    "c" + ESC, "x", "%Sb\n", "z", "Z", "/b\n", "n", "N", ")", ";", ",", "ia" + DEL + ESC, "2.", "5")
        for time in range(150):
            text = "".join(chance.choice("aab \n") for place in range(30))
            keys = "".join(chance.choice(commands) for place in range(12))
            played = Seen(text, "q" + keys + ESC + "q@")
            pressed = Seen(text, "q" + keys + ESC + "q" + keys + ESC)
            self.assertEqual(vars(played), vars(pressed))


class PlaysMacros(EditorTest):
    def test_ahead_of_all_others(self):
        # The dot's keys come ahead of the keys that are left of the macro.
        self.check("ab", "iXY" + ESC + "q.hq", [(3, 3)], becomes="XYXYab")
        self.check("ab", "iXY" + ESC + "q.hq@", [(4, 4)], becomes="XYXXYYab")

    def test_a_macro_that_plays_itself_at_its_end(self):
        # q)@q: while it is recorded @ plays nothing. Then @ and 249 times ) @ and ) are 500.
        self.check(THIRTY, CHOOSE + "q)@q", self.thirty(), main=0)
        self.check(THIRTY, CHOOSE + "q)@q@", self.thirty(), main=250 % 30)
        self.check(THIRTY, CHOOSE + "q)@q@@", self.thirty(), main=500 % 30)

    def test_a_macro_that_plays_itself_at_its_beginning(self):
        # It never comes to what is behind; the others that would come are dropped.
        self.check(THIRTY, CHOOSE + "q@)q", self.thirty(), main=0)
        self.check(THIRTY, CHOOSE + "q@)q@", self.thirty(), main=0)
        self.check(THIRTY, CHOOSE + "q@)q@)", self.thirty(), main=1)

    def test_a_macro_that_plays_itself_with_a_count(self):
        # Each time: ) 9 9 @ are four keys; @ and 124 times these, and ) 9 9.
        self.check(THIRTY, CHOOSE + "q)99@q@", self.thirty(), main=125 % 30)
        # The count that was left, 99, is there when the next key is pressed.
        self.check(THIRTY, CHOOSE + "q)99@q@)", self.thirty(), main=(125 + 99) % 30)

    def test_500_keys_at_most(self):
        # 7 keys, 99 times; 1 for @ and 499 of them.
        self.check(THIRTY, CHOOSE + "q)))))))q71@", self.thirty(), main=(6 + 7 * 71) % 30)
        self.check(THIRTY, CHOOSE + "q)))))))q72@", self.thirty(), main=(6 + 499) % 30)
        self.check(THIRTY, CHOOSE + "q)))))))q99@", self.thirty(), main=(6 + 499) % 30)

    def test_500_keys_with_those_that_a_dot_brings(self):
        # The dot counts, and its three keys. 1 for @ and 124 times four are 497; then come a dot, i, x.
        self.check("", "ix" + ESC + "q.q99@", [(101, 101)], becomes="x" * 101)
        self.check("", "ix" + ESC + "q..q99@", [(128, 128)], becomes="x" * 128, mode=1)

    def test_each_that_is_pressed_has_500(self):
        self.check(THIRTY, CHOOSE + "q)))))))q99@99@", self.thirty(), main=(6 + 998) % 30)

    def test_cut_off_in_insert_mode(self):
        macro = "qizzz" + DEL * 3 + ESC + "q"
        self.check("ab", macro + "99@", [(2, 2)], becomes="zzab", mode=1)
        self.check("ab", macro + "99@q" + ESC, [(3, 3)], becomes="zzqab")

    def test_long_macros_come_to_an_end(self):
        keys = "q" + ")9@" * 60 + "q" + "99@" * 10
        self.assertEqual(len(Seen(THIRTY, CHOOSE + keys).sels), 30)

    def test_played_q_does_nothing(self):
        # While recorded, the dot is cut off in insert mode, so 3 q h are bytes there. Played when the last change
        # is short, the dot is not cut off, and they come in normal mode: q ends the count, and records nothing.
        record = "izzzzz" + DEL * 5 + "1" + ESC + "q99.3qh" + ESC + "q"
        text = "1" * 39 + "zzzz3qh"
        self.check("", record, [(46, 46)], becomes=text)
        self.check("", record + "%~", [(0, 46)], becomes=text.upper())
        self.check("", record + "%~@", [(45, 45)], becomes=text)
        self.check("", record + "%~@qhq@", [(43, 43)], becomes=text)

    def thirty(self):
        return [(2 * k + 1, 2 * k + 2) for k in range(30)]


if __name__ == "__main__":
    unittest.main()
