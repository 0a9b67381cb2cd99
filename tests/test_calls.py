"""The calls and the interface: what is answered, what is refused, what is left alone."""

import contextlib
import io
import unittest

from keyeditor.editor import answers
from tests.helper import DEL, ESC, MACRO, REGISTERS, SELECTIONS, SHOWS, STEPS, ask, keys_call, parted, text_call

BIG = 4294967295


class TextCall(unittest.TestCase):
    def test_answers_how_many(self):
        self.assertEqual(answers([0, 3, 97, 98, 99]), [1, 3])
        self.assertEqual(answers([0, 0]), [1, 0])

    def test_every_byte_is_taken(self):
        row = list(range(200))
        self.assertEqual(ask(text_call(row), SHOWS), [[200], [200] + row])
        row = list(range(156, 256))
        self.assertEqual(ask(text_call(row), SHOWS), [[100], [100] + row])

    def test_all_is_anew(self):
        begun = [text_call("ab ab"), keys_call("%sab\nz~uq3d/a\n"), keys_call("%di"), text_call("xyz")]
        self.assertEqual(ask(*begun, SHOWS, SELECTIONS)[-2:], [[3, 120, 121, 122], [0, 1, 0, 0, 0]])
        for key in "pPnNZuU.@":
            self.assertEqual(ask(*begun, keys_call(key), SHOWS)[-2:], [[0, 3, 0, 1, 0, 0], [3, 120, 121, 122]])

    def test_recording_does_not_outlive_a_text(self):
        given = ask(keys_call("ql"), text_call("abc"), keys_call("q"), keys_call("l"), keys_call("q"), keys_call("@"))
        self.assertEqual([part[-1] for part in given], [0, 3, 0, 1, 1, 2])

    def test_count_and_mode_do_not_outlive_a_text(self):
        for keys in ("2", "i", "r", "s", "/a"):
            given = ask(keys_call(keys), text_call("abcd"), keys_call("l"))
            self.assertEqual(given[-1], [0, 4, 0, 1, 1, 1])

    def test_refused(self):
        for row in ([256], [97, 98, BIG], [0] * 201, [0] * 220, [256] * 201, [BIG] * 220, [97] * 199 + [256]):
            self.assertEqual(ask(text_call(row)), [[-1]])
        self.assertEqual(ask(text_call([255] * 200)), [[200]])
        self.assertEqual(ask(text_call([255])), [[1]])

    def test_all_is_as_it_was_after_a_refusal(self):
        given = ask(text_call("abc"), keys_call("lz3"), text_call([300]), keys_call("h"), text_call([0] * 201),
                    SHOWS, SELECTIONS, keys_call("Z"))
        self.assertEqual(given, [[3], [0, 3, 0, 1, 1, 1], [-1], [0, 3, 0, 1, 0, 0], [-1],
                                 [3, 97, 98, 99], [0, 1, 0, 0, 2, 1, 1], [0, 3, 0, 1, 1, 1]])


class KeysCall(unittest.TestCase):
    def test_answers_mode_bytes_main_and_selections(self):
        self.assertEqual(answers([0, 3, 97, 98, 99, 1, 2, 76, 76]), [1, 3, 6, 0, 3, 0, 1, 0, 2])
        self.assertEqual(ask(text_call("a a a"), keys_call("%sa\n")), [[5], [0, 5, 2, 3, 0, 1, 2, 3, 4, 5]])

    def test_no_keys(self):
        self.assertEqual(answers([1, 0]), [6, 0, 0, 0, 1, 0, 0])

    def test_modes(self):
        for keys, mode in (("", 0), ("5", 0), ("i", 1), ("a", 1), ("c", 1), ("o", 1), ("s", 2), ("S", 2), ("/", 2),
                           ("r", 3), ("ix", 1), ("i" + DEL, 1), ("sx" + DEL, 2), ("i" + ESC, 0), ("s" + ESC, 0),
                           ("s\n", 0), ("sx\n", 0), ("r" + ESC, 0), ("rx", 0), ("/" + ESC, 0), ("S\n", 0)):
            self.assertEqual(ask(keys_call(keys))[0][0], mode, keys)

    def test_what_was_begun_goes_on_in_the_next_call(self):
        given = ask(text_call("abcdef"), keys_call("1"), keys_call("r"), keys_call(ESC), keys_call("3"),
                    keys_call("l"), keys_call("i"), keys_call("x"), keys_call(ESC), keys_call("/"), keys_call("e\n"))
        self.assertEqual([part[0] for part in given[1:]], [0, 3, 0, 0, 0, 1, 1, 0, 2, 0])
        self.assertEqual(given[-1], [0, 7, 0, 1, 5, 6])

    def test_refused(self):
        for row in ([256], [108, BIG], [108] * 61, [108] * 220, [256] * 61, [BIG] * 220, [108] * 59 + [256]):
            self.assertEqual(ask(keys_call(row)), [[-1]])
        self.assertEqual(ask(keys_call([255] * 60)), [[0, 0, 0, 1, 0, 0]])

    def test_none_is_pressed_of_those_refused(self):
        given = ask(text_call("abcdef"), keys_call("2"), keys_call([108, 108, 256]), keys_call([105] * 61),
                    keys_call("l"), SHOWS)
        self.assertEqual(given[2:], [[-1], [-1], [0, 6, 0, 1, 2, 2], [6, 97, 98, 99, 100, 101, 102]])

    def test_sixty_are_pressed(self):
        given = ask(text_call([97] * 100), keys_call("l" * 60))
        self.assertEqual(given[1], [0, 100, 0, 1, 60, 60])

    def test_refused_keys_are_not_recorded(self):
        given = ask(text_call([97] * 9), keys_call("ql"), keys_call([108, 256]), keys_call("q@"))
        self.assertEqual(given[-1], [0, 9, 0, 1, 2, 2])


class ShowsAndSelectionsCalls(unittest.TestCase):
    def test_shows(self):
        self.assertEqual(answers([2]), [1, 0])
        self.assertEqual(ask(text_call("a\nb"), SHOWS), [[3], [3, 97, 10, 98]])
        self.assertEqual(ask(keys_call("ihey"), SHOWS)[1], [3, 104, 101, 121])

    def test_selections(self):
        self.assertEqual(answers([3]), [5, 0, 1, 0, 0, 0])
        self.assertEqual(ask(text_call("abc"), keys_call("lLH2H"), SELECTIONS)[2], [0, 1, 1, 0, 0])

    def test_selections_kept(self):
        given = ask(text_call("abab"), keys_call("%sa\nz%"), SELECTIONS, keys_call(",z"), SELECTIONS)
        self.assertEqual(given[2], [0, 1, 0, 4, 3, 0, 1, 2, 3])
        self.assertEqual(given[4], [0, 1, 0, 4, 2, 0, 4])

    def test_showing_changes_nothing(self):
        given = ask(text_call("abcdef"), keys_call("2"), SHOWS, SELECTIONS, keys_call("l"), keys_call("i"), SHOWS,
                    keys_call("x"))
        self.assertEqual((given[4], given[7]), ([0, 6, 0, 1, 2, 2], [1, 7, 0, 1, 3, 3]))


class Interface(unittest.TestCase):
    def test_forty_calls(self):
        calls = []
        expected = []
        for time in range(20):
            calls += keys_call("i" + "ab" + ESC) + SHOWS
            expected.append([0, 2 * time + 2, 0, 1, 2 * time + 2, 2 * time + 2])
            expected.append([2 * time + 2] + [97, 98] * (time + 1))
        self.assertEqual(parted(answers(calls)), expected)

    def test_what_is_handed_in_stays(self):
        calls = text_call("abc abc") + keys_call("%sb\ndiq" + ESC) + SHOWS + SELECTIONS + text_call([256]) + SHOWS
        as_it_was = list(calls)
        first = answers(calls)
        self.assertEqual(calls, as_it_was)
        first.append(7)
        self.assertEqual(answers(calls) + [7], first)
        self.assertEqual(calls, as_it_was)

    def test_nothing_is_kept_from_one_time_to_the_next(self):
        fresh = [[0, 0, 0, 1, 0, 0], [0], [0, 1, 0, 0, 0]]
        ask(text_call("abc abc"), keys_call("%sb\nz~ydq3l"), keys_call("q/a\n"), keys_call("iX"))
        self.assertEqual(ask(keys_call(""), SHOWS, SELECTIONS), fresh)
        self.assertEqual(ask(REGISTERS, MACRO, STEPS), [[0, 0, 0], [0, 0], [0, 0, 0]])
        for key in "pPnNZuU.@q":
            self.assertEqual(ask(keys_call(key), SHOWS, SELECTIONS), fresh)

    def test_kinds(self):
        given = answers(text_call("ab") + keys_call("%z~yq") + SHOWS + SELECTIONS + REGISTERS + MACRO + STEPS
                        + keys_call([256]))
        self.assertIs(type(given), list)
        self.assertEqual({type(number) for number in given}, {int})

    def test_nothing_is_printed(self):
        out = io.StringIO()
        with contextlib.redirect_stdout(out), contextlib.redirect_stderr(out):
            answers(text_call("ab") + keys_call("%z~yq") + SHOWS + SELECTIONS + REGISTERS + MACRO + STEPS
                    + text_call([256]))
        self.assertEqual(out.getvalue(), "")

    def test_longest_list(self):
        calls = (text_call([97] * 220) + keys_call([108] * 220)) * 20
        self.assertEqual(len(calls), 8880)
        self.assertEqual(answers(calls), [1, -1] * 40)


if __name__ == "__main__":
    unittest.main()
