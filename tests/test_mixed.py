"""All seven calls together: in the midst of commands, round refusals, in long lists."""

import random
import unittest

from keyeditor.editor import answers
from tests.helper import (DEL, ESC, MACRO, REGISTERS, SELECTIONS, SHOWS, STEPS, EditorTest, Told, ask, keys_call,
                          parted, text_call)

TELLING = (SHOWS, SELECTIONS, REGISTERS, MACRO, STEPS)
FRESH = [[0, 0, 0], [0, 0], [0, 0, 0]]
COMMANDS = ("l", "h", "2L", "3H", "w", "b", "J", "x", "%", ";", ",", "2)", "d", "y", "p", "2P", "~", "rq", "r\n", "u",
            "2u", "U", ".", "3.", "q", "q", "@", "2@", "z", "Z", "n", "N", "/a\n", "/x" + ESC, "%sa\n", "%Sb\n", "0",
            "ixy" + ESC, "aq" + DEL + ESC, "cab" + ESC, "o" + ESC, "7", "i", "r", "s", ESC, "v")
REFUSED = (text_call([256]), text_call([97] * 201), text_call([4294967295] * 220), keys_call([256]),
           keys_call("q" * 61), keys_call([105, 27, 4294967295]), keys_call([300] * 220))


def one_of(chance, kinds):
    kind = chance.choice(kinds)
    if kind == "keys":
        return keys_call("".join(chance.choice(COMMANDS) for time in range(chance.randrange(12)))[:60])
    if kind == "text":
        return text_call("".join(chance.choice("aab \n") for time in range(chance.randrange(40))))
    return list(chance.choice(TELLING if kind == "telling" else REFUSED))


def some_calls(chance, kinds=("keys", "keys", "keys", "telling", "telling")):
    return [one_of(chance, ("text",))] + [one_of(chance, kinds) for time in range(chance.randrange(1, 40))]


class InTheMidst(EditorTest):
    begun = "Ly2pqlq/b\nq"

    def check_midst(self, keys, **expected):
        whole = dict(pieces=["a"], searched="b", last_change="2p", macro="l", recorded=keys, undone=1, again=0)
        whole.update(expected)
        self.check_told("abc", self.begun + keys, **whole)

    def test_after_digits(self):
        self.check_midst("", count=0)
        self.check_midst("1", count=1)
        self.check_midst("120", count=99)

    def test_in_insert_mode(self):
        self.check_midst("ixy", count=0)
        self.check_midst("4ixy", count=4)
        self.check_midst("4ox" + DEL, count=4)
        self.check_midst("4cx", count=4, pieces=["b"])

    def test_in_a_prompt(self):
        for key in "sS/":
            self.check_midst(key, count=0)
            self.check_midst("4" + key + "12q", count=4)
            self.check_midst("4" + key + "x" + DEL, count=4)

    def test_while_the_byte_of_r_is_waited_for(self):
        self.check_midst("r", count=0)
        self.check_midst("13r", count=13)

    def test_behind_undoing(self):
        for keys in ("", "5", "5i", "5ix", "5r", "5/x"):
            self.check_told("abcdef", "LdLdu" + keys, undone=1, again=1, last_change="d", count=5 if keys else 0)

    def test_asked_key_by_key(self):
        # What is asked in between changes nothing of what comes out in the end.
        keys = "%sa\n2Ly3pq2ixq" + DEL + ESC + "rqu12.q2@uU5"
        pressed = [keys_call(key) for key in keys]
        expected = ask(text_call("ab ab"), keys_call(keys), REGISTERS, MACRO, STEPS)[-3:]
        for at in range(len(pressed)):
            calls = [text_call("ab ab")] + pressed[:at] + [REGISTERS, MACRO, STEPS] + pressed[at:]
            calls += [REGISTERS, MACRO, STEPS]
            self.assertLessEqual(len(calls), 40)
            self.assertEqual(ask(*calls)[-3:], expected)


class Refused(EditorTest):
    begun = ("", "Ld", "LdLdu", "%yp3", "q2l", "q2lq", "qlqqh", "ixy", "3ix", "LdLr", "5r", "/ab", "/b\n4s", "%sb\nc",
             "qi", "q/a", "q3r", "Ldz7")

    def test_all_three_are_as_they_were(self):
        for keys in self.begun:
            before = [text_call("abc abc"), keys_call(keys)]
            expected = ask(*before, *TELLING)[2:]
            for refused in REFUSED:
                given = ask(*before, *TELLING, refused, *TELLING)
                self.assertEqual(given[2:7], expected)
                self.assertEqual(given[7], [-1])
                self.assertEqual(given[8:], expected)

    def test_at_the_beginning(self):
        for refused in REFUSED:
            self.assertEqual(ask(refused, REGISTERS, MACRO, STEPS), [[-1]] + FRESH)

    def test_a_command_goes_on_behind_it(self):
        for keys in self.begun:
            before = [text_call("abc abc"), keys_call(keys)]
            behind = [keys_call("b\n" + ESC), *TELLING, keys_call("q2."), *TELLING]
            for refused in REFUSED:
                self.assertEqual(ask(*before, refused, *behind)[3:], ask(*before, *behind)[2:])

    def test_text_taken(self):
        for keys in self.begun:
            for text in ("", "xyz"):
                given = ask(text_call("abc abc"), keys_call(keys), text_call(text), REGISTERS, MACRO, STEPS)
                self.assertEqual(given[3:], FRESH)

    def test_bounds(self):
        begun = [text_call("abc"), keys_call("Ldq"), keys_call("l" * 60), MACRO]
        self.assertEqual(ask(*begun)[-1], [0, 61] + [108] * 60)
        self.assertEqual(ask(*begun, text_call([255] * 200), MACRO)[-2:], [[200], [0, 0]])


class LongLists(unittest.TestCase):
    def test_forty_of_all_kinds(self):
        calls_and_answers = (
            (REGISTERS, [0, 0, 0]), (MACRO, [0, 0]), (STEPS, [0, 0, 0]), (SHOWS, [0]), (SELECTIONS, [0, 1, 0, 0, 0]),
            (text_call("ab ab"), [5]),
            (keys_call("%sa\n"), [0, 5, 1, 2, 0, 1, 3, 4]),
            (REGISTERS, [0, 0, 0]),
            (keys_call("zd"), [0, 3, 1, 2, 0, 0, 2, 2]),
            (SHOWS, [3, 98, 32, 98]),
            (SELECTIONS, [1, 2, 0, 0, 2, 2, 2, 0, 2]),
            (REGISTERS, [2, 1, 97, 1, 97, 0, 1, 100]),
            (STEPS, [1, 0, 0]),
            (keys_call("2"), [0, 3, 1, 2, 0, 0, 2, 2]),
            (STEPS, [1, 0, 2]),
            (keys_call([256]), [-1]),
            (STEPS, [1, 0, 2]),
            (keys_call("p"), [0, 7, 1, 2, 0, 2, 4, 6]),
            (REGISTERS, [2, 1, 97, 1, 97, 0, 2, 50, 112]),
            (STEPS, [2, 0, 0]),
            (keys_call("u"), [0, 3, 1, 2, 0, 0, 2, 2]),
            (STEPS, [1, 1, 0]),
            (keys_call("q/b"), [2, 3, 1, 2, 0, 0, 2, 2]),
            (MACRO, [0, 3, 47, 98]),
            (REGISTERS, [2, 1, 97, 1, 97, 0, 2, 50, 112]),
            (keys_call("\n"), [0, 3, 0, 1, 2, 3]),
            (keys_call("rxq"), [0, 3, 0, 1, 2, 3]),
            (MACRO, [5, 47, 98, 10, 114, 120, 0]),
            (REGISTERS, [2, 1, 97, 1, 97, 1, 98, 2, 114, 120]),
            (STEPS, [2, 0, 0]),
            (keys_call("@"), [0, 3, 0, 1, 0, 1]),
            (SHOWS, [3, 120, 32, 120]),
            (STEPS, [3, 0, 0]),
            (text_call([0] * 201), [-1]),
            (keys_call("9u"), [0, 5, 1, 2, 0, 1, 3, 4]),
            (STEPS, [0, 3, 0]),
            (MACRO, [5, 47, 98, 10, 114, 120, 0]),
            (text_call("z"), [1]),
            (MACRO, [0, 0]),
            (STEPS, [0, 0, 0]),
        )
        self.assertEqual(len(calls_and_answers), 40)
        self.assertEqual(ask(*[call for call, answer in calls_and_answers]),
                         [answer for call, answer in calls_and_answers])

    def test_what_is_handed_in_stays_and_answers_the_same(self):
        chance = random.Random(11)
        for time in range(100):
            calls = sum(some_calls(chance, ("keys", "keys", "text", "telling", "telling", "refused")), [])
            as_it_was = list(calls)
            first = answers(calls)
            self.assertEqual(calls, as_it_was)
            kept = list(first)
            first.clear()
            self.assertEqual(answers(calls), kept)
            self.assertEqual(calls, as_it_was)
            self.assertEqual({type(number) for number in kept}, {int})

    def test_telling_changes_nothing(self):
        chance = random.Random(12)
        for time in range(100):
            calls = some_calls(chance)
            given = ask(*calls)
            told = [call[0] >= 2 for call in calls]
            without = ask(*[call for call, tells in zip(calls, told) if not tells])
            self.assertEqual([part for part, tells in zip(given, told) if not tells], without)

    def test_refused_calls_change_nothing(self):
        chance = random.Random(13)
        for time in range(100):
            calls = some_calls(chance, ("keys", "keys", "telling", "telling", "refused"))
            given = ask(*calls)
            refused = [call in REFUSED for call in calls]
            self.assertEqual([part == [-1] for part in given], refused)
            without = ask(*[call for call, wrong in zip(calls, refused) if not wrong])
            self.assertEqual([part for part in given if part != [-1]], without)

    def test_text_begins_anew(self):
        chance = random.Random(14)
        for time in range(100):
            ahead, behind = some_calls(chance)[:20], some_calls(chance)[:20]
            self.assertEqual(ask(*ahead, *behind)[len(ahead):], ask(*behind))

    def test_answers_agree_with_one_another(self):
        chance = random.Random(15)
        for time in range(100):
            calls = some_calls(chance, ("keys",))[:36]
            given = ask(*calls, keys_call(""), SHOWS, SELECTIONS, STEPS)
            of_keys, shown, selected, steps = given[-4:]
            self.assertEqual(of_keys[1], shown[0])
            self.assertEqual(of_keys[2:], selected[:len(of_keys) - 2])
            self.assertLess(of_keys[2], of_keys[3])
            ends = [sorted(of_keys[at:at + 2]) for at in range(4, len(of_keys), 2)]
            self.assertEqual(ends, sorted(ends))
            self.assertLessEqual(steps[2], 99)

    def test_the_longest(self):
        calls = (text_call([97] * 200) + keys_call("%y" + "q~q" + "99@" * 18) + REGISTERS + MACRO + STEPS) * 8
        self.assertEqual(parted(answers(calls))[2:5],
                         [[1, 200] + [97] * 200 + [0, 1, 126], [1, 126, 0], [1 + 18 * 99, 0, 0]])
        self.assertEqual(answers(calls)[-2:], [0, 0])


class PlayedIsPressed(unittest.TestCase):
    """What is told in the end is the same whether keys came or were pressed."""

    def test_the_dot(self):
        chance = random.Random(16)
        for time in range(150):
            text = "".join(chance.choice("aab \n") for place in range(20))
            keys = "".join(chance.choice(COMMANDS) for place in range(10)).replace("q", "x") + ESC + ESC
            last_change = Told(text, keys).last_change
            self.assertEqual(vars(Told(text, keys + "2.")), vars(Told(text, keys + last_change * 2)))

    def test_a_macro(self):
        chance = random.Random(17)
        for time in range(150):
            text = "".join(chance.choice("aab \n") for place in range(20))
            keys = "".join(chance.choice(COMMANDS) for place in range(10)).replace("q", "x").replace("@", "l") + ESC
            begun = "q" + keys + ESC + "q"
            self.assertEqual(Told(text, begun).macro, keys + ESC)
            self.assertEqual(vars(Told(text, begun + "@")), vars(Told(text, begun + keys + ESC)))


if __name__ == "__main__":
    unittest.main()
