"""What the tests share: calls written plainly, answers taken apart."""

import unittest

from keyeditor.editor import answers

ESC = "\x1b"
DEL = "\x7f"
SHOWS = [2]
SELECTIONS = [3]
REGISTERS = [4]
MACRO = [5]
STEPS = [6]


def numbers(text):
    return list(text.encode("latin-1"))


def text_call(row):
    row = numbers(row) if isinstance(row, str) else list(row)
    return [0, len(row)] + row


def keys_call(row):
    row = numbers(row) if isinstance(row, str) else list(row)
    return [1, len(row)] + row


def parted(given):
    """The answers, one list for each call."""
    parts = []
    at = 0
    while at < len(given):
        parts.append(given[at + 1:at + 1 + given[at]])
        assert len(parts[-1]) == given[at]
        at += 1 + given[at]
    return parts


def ask(*calls):
    """The answers to calls on one new editor."""
    return parted(answers([number for call in calls for number in call]))


def pairs(places):
    return list(zip(places[::2], places[1::2]))


def press_calls(keys):
    """Keys as calls of at most 60 keys each."""
    return [keys_call(keys[at:at + 60]) for at in range(0, max(len(keys), 1), 60)]


class Seen:
    """What is to be seen of an editor after a text and keys."""

    def __init__(self, text, keys):
        given = ask(text_call(text), *press_calls(keys), SHOWS, SELECTIONS)
        of_keys, shown, selected = given[-3], given[-2], given[-1]
        self.mode = of_keys[0]
        self.text = bytes(shown[1:]).decode("latin-1")
        self.main = selected[0]
        much = selected[1]
        self.sels = pairs(selected[2:2 + 2 * much])
        kept = selected[2 + 2 * much:]
        self.kept = None if kept == [0] else pairs(kept[1:])
        assert shown[0] == len(shown) - 1 == of_keys[1]
        assert of_keys[2:] == selected[:2 + 2 * much]
        assert kept[0] == (0 if self.kept is None else 1 + len(self.kept))


def counted_texts(answer, at, much):
    """That many texts, each with how many bytes it has before it, and where they end."""
    texts = []
    for time in range(much):
        end = at + 1 + answer[at]
        texts.append(bytes(answer[at + 1:end]).decode("latin-1"))
        assert len(texts[-1]) == answer[at]
        at = end
    return texts, at


class Told:
    """What registers, macro and steps tell after a text and keys; recorded is None if nothing is being recorded."""

    def __init__(self, text, keys):
        registers, macro, steps = ask(text_call(text), *press_calls(keys), REGISTERS, MACRO, STEPS)[-3:]
        self.pieces, at = counted_texts(registers, 1, registers[0])
        (self.searched, self.last_change), end = counted_texts(registers, at, 2)
        assert end == len(registers)
        (self.macro,), end = counted_texts(macro, 0, 1)
        self.recorded = None if macro[end] == 0 else bytes(macro[end + 1:]).decode("latin-1")
        assert len(macro) - end == max(macro[end], 1)
        self.undone, self.again, self.count = steps


class EditorTest(unittest.TestCase):
    def check(self, text, keys, sels, becomes=None, main=0, mode=0, kept=None):
        """After keys on text: the selections as (anchor, hand), the text (the same if none is told), and so on."""
        seen = Seen(text, keys)
        self.assertEqual(seen.text, text if becomes is None else becomes)
        self.assertEqual(seen.sels, sels)
        self.assertEqual((seen.main, seen.mode), (main, mode))
        if kept is not None:
            self.assertEqual(seen.kept, kept)

    def check_text(self, text, keys, becomes):
        self.assertEqual(Seen(text, keys).text, becomes)

    def check_told(self, text, keys, **expected):
        """Those told of pieces, searched, last_change, macro, recorded, undone, again and count."""
        told = vars(Told(text, keys))
        self.assertEqual({name: told[name] for name in expected}, expected, keys)
