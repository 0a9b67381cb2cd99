"""The calls on one editor, as a list of whole numbers, and their answers."""

from keyeditor.constants import GREATEST_BYTE, MOST_BYTES, MOST_KEYS
from keyeditor.pressing import press
from keyeditor.state import Editor

TEXT = 0
KEYS = 1
SHOWS = 2
SELECTIONS = 3


def is_refused(call, row):
    most = MOST_KEYS if call == KEYS else MOST_BYTES
    return len(row) > most or any([number > GREATEST_BYTE for number in row])


def places_of(selections):
    places = []
    for one in selections.each:
        places.append(one.anchor)
        places.append(one.hand)
    return places


def answer_of_selected(editor):
    return [editor.selected.main, len(editor.selected.each)] + places_of(editor.selected)


def answer_of_keys(editor, keys):
    for key in keys:
        press(editor, key)
    return [editor.mode, len(editor.text)] + answer_of_selected(editor)


def answer_of_shows(editor):
    return [len(editor.text)] + editor.text


def answer_of_selections(editor):
    if editor.kept is None:
        return answer_of_selected(editor) + [0]
    return answer_of_selected(editor) + [len(editor.kept.each) + 1] + places_of(editor.kept)


def answer_of(editor, call, row):
    if call == KEYS:
        return answer_of_keys(editor, row)
    if call == SHOWS:
        return answer_of_shows(editor)
    if call == SELECTIONS:
        return answer_of_selections(editor)
    raise ValueError("no such call")


# Calls as (number, row), the row empty for calls that are handed none.
def calls_in(numbers):
    calls = []
    at = 0
    while at < len(numbers):
        call = numbers[at]
        at += 1
        row = []
        if call in (TEXT, KEYS):
            behind = at + 1 + numbers[at]
            row = numbers[at + 1:behind]
            at = behind
        calls.append((call, row))
    return calls


def answers(calls):
    editor = Editor([])
    given = []
    for call, row in calls_in(calls):
        if is_refused(call, row):
            answer = [-1]
        elif call == TEXT:
            editor = Editor(row)
            answer = [len(row)]
        else:
            answer = answer_of(editor, call, row)
        given.append(len(answer))
        given.extend(answer)
    return given
