"""The call macro: its keys, and what is being recorded."""

import unittest

from keyeditor.editor import answers
from tests.helper import DEL, ESC, MACRO, EditorTest, ask, keys_call, numbers, text_call


class Form(unittest.TestCase):
    def test_number_by_number(self):
        for keys, expected in (("", [0, 0]), ("q", [0, 1]), ("ql", [0, 2, 108]), ("qlh", [0, 3, 108, 104]),
                               ("qlhq", [2, 108, 104, 0]), ("qlhqq", [2, 108, 104, 1]),
                               ("qlhqqk", [2, 108, 104, 2, 107]), ("qlhqqkq", [1, 107, 0]),
                               ("qq", [0, 0]), ("qlqqq", [0, 0])):
            self.assertEqual(ask(keys_call(keys), MACRO)[-1], expected, keys)
        self.assertEqual(answers([5]), [2, 0, 0])

    def test_every_byte(self):
        keys = [113, 0, 255, 127, 27, 10, 200]
        self.assertEqual(ask(keys_call(keys), MACRO)[-1], [0, 7] + keys[1:])
        self.assertEqual(ask(keys_call(keys + [113]), MACRO)[-1], [6] + keys[1:] + [0])

    def test_asked_while_recording(self):
        given = ask(text_call("abc"), keys_call("q"), MACRO, keys_call("l"), MACRO, MACRO, keys_call("h"), MACRO,
                    keys_call("q"), MACRO, keys_call("l"), MACRO)
        self.assertEqual([given[k] for k in (2, 4, 5, 7, 9, 11)],
                         [[0, 1], [0, 2, 108], [0, 2, 108], [0, 3, 108, 104], [2, 108, 104, 0], [2, 108, 104, 0]])


class Recorded(EditorTest):
    def test_nothing(self):
        for keys in ("", "l3Ld", "@", "9@", ".", "iq" + ESC, "/q\n", "%sq" + ESC, "Lrq"):
            self.check_told("abc", keys, macro="", recorded=None)

    def test_begun(self):
        self.check_told("abc", "q", macro="", recorded="")
        self.check_told("abc", "llq", macro="", recorded="")

    def test_so_far(self):
        self.check_told("abc", "q2ld", macro="", recorded="2ld")

    def test_ended(self):
        self.check_told("abc", "q2ldq", macro="2ld", recorded=None)
        self.check_told("abc", "q2ldqhh", macro="2ld", recorded=None)

    def test_anew_over_another(self):
        self.check_told("abc", "q2ldqqh", macro="2ld", recorded="h")
        self.check_told("abc", "q2ldqqhq", macro="h", recorded=None)

    def test_without_keys(self):
        self.check_told("abc", "qq", macro="", recorded=None)
        self.check_told("abc", "qlqqq", macro="", recorded=None)

    def test_keys_that_do_nothing_or_give_up(self):
        self.check_told("abc", "qv0" + ESC + "3" + ESC + DEL + "\nq", macro="v0" + ESC + "3" + ESC + DEL + "\n")

    def test_digits(self):
        self.check_told("abc", "3qlq", macro="l", count=0)
        self.check_told("abc", "3q", recorded="", count=0)
        self.check_told("abc", "ql3q", macro="l3", count=0)
        self.check_told("abc", "q100q", macro="100", count=0)

    def test_undoing_leaves_it(self):
        self.check_told("abc", "qLdquu", macro="Ld", undone=0)
        self.check_told("abc", "qLduUq", macro="LduU")

    def test_over_several_calls(self):
        self.check_told("abc", "q" + "lh" * 50, recorded="lh" * 50)
        self.check_told("abc", "q" + "lh" * 500 + "q", macro="lh" * 500)


class RecordedInOtherModes(EditorTest):
    def test_q_in_insert_mode(self):
        self.check_told("abc", "qiq", macro="", recorded="iq")
        self.check_told("abc", "qiqq" + ESC, macro="", recorded="iqq" + ESC)
        self.check_told("abc", "qiq" + ESC + "q", macro="iq" + ESC, recorded=None)
        self.check_told("abc", "iqq", macro="", recorded=None)

    def test_q_in_a_prompt(self):
        for key in "sS/":
            self.check_told("abc", "q" + key + "q", macro="", recorded=key + "q")
            self.check_told("abc", "q" + key + "q" + ESC + "q", macro=key + "q" + ESC, recorded=None)
            self.check_told("abc", "q" + key + "qq\nq", macro=key + "qq\n", recorded=None)
            self.check_told("abc", key + "q", macro="", recorded=None)

    def test_q_as_the_byte_of_r(self):
        self.check_told("abc", "qrq", macro="", recorded="rq")
        self.check_told("abc", "qLrqq", macro="Lrq", recorded=None)
        self.check_told("abc", "Lrq", macro="", recorded=None)
        self.check_told("abc", "qr" + ESC + "q", macro="r" + ESC, recorded=None)

    def test_127_and_27(self):
        self.check_told("abc", "qix" + DEL + ESC + "q", macro="ix" + DEL + ESC)
        self.check_told("abc", "q/x" + DEL + ESC + "q", macro="/x" + DEL + ESC)


class PlayedAndRecorded(EditorTest):
    def test_played_keys_are_not_recorded(self):
        self.check_told("a" * 9, "q2lqq@", macro="2l", recorded="@")
        self.check_told("a" * 9, "q2lqq3@hq", macro="3@h", recorded=None)
        self.check_told("abc", "ix" + ESC + "q.", recorded=".", last_change="ix" + ESC)
        self.check_told("abc", "ix" + ESC + "q2.lq", macro="2.l", recorded=None)

    def test_pressed_keys_that_end_what_was_played_are(self):
        # @ leaves 3 as the count; l is pressed behind it.
        self.check_told("a" * 9, "q3qq@l", macro="3", recorded="@l")

    def test_playing_leaves_the_macro(self):
        self.check_told("a" * 9, "qlq9@@", macro="l", recorded=None)
        self.check_told("a" * 9, "q@lq@", macro="@l", recorded=None)

    def test_q_that_comes_of_a_macro(self):
        self.check_told("abc", "qLrqq@", macro="Lrq", recorded=None)
        self.check_told("abc", "qLrqqq@", macro="Lrq", recorded="@")
        self.check_told("abc", "qiq" + ESC + "qq2@", macro="iq" + ESC, recorded="2@")
        self.check_told("abc", "q/q\nqq@", macro="/q\n", recorded="@", searched="q")

    def test_q_that_comes_of_the_dot(self):
        self.check_told("abc", "Lrql.", macro="", recorded=None)
        self.check_told("abc", "Lrqq.", macro="", recorded=".")
        self.check_told("abc", "iq" + ESC + "q.q", macro=".", recorded=None)

    def test_q_that_comes_in_normal_mode(self):
        # While recorded, the dot is cut off in insert mode, so 3 q h are bytes there; played when the last change
        # is short they come in normal mode.
        record = "izzzzz" + DEL * 5 + "1" + ESC + "q99.3qh" + ESC + "q"
        macro = "99.3qh" + ESC
        self.check_told("", record, macro=macro, recorded=None, count=0)
        self.check_told("", record + "%~@", macro=macro, recorded=None, count=0)
        self.check_told("", record + "%~q@", macro=macro, recorded="@", count=0)
        self.check_told("", record + "%~q@q", macro="@", recorded=None)

    def test_cut_off_in_insert_mode_q_ends_nothing(self):
        macro = "izzz" + DEL * 3 + ESC
        self.check_told("ab", "q" + macro + "qq99@q", macro=macro, recorded="99@q")
        self.check_told("ab", "q" + macro + "qq99@q" + ESC + "q", macro="99@q" + ESC, recorded=None)

    def test_refused_keys_are_not_recorded(self):
        given = ask(keys_call("ql"), keys_call([104, 256]), MACRO, keys_call([104] * 61), MACRO, keys_call("kq"), MACRO)
        self.assertEqual([given[2], given[4], given[6]], [[0, 2, 108], [0, 2, 108], [2, 108, 107, 0]])
        self.assertEqual(numbers("lk"), given[6][1:3])


if __name__ == "__main__":
    unittest.main()
