"""The calls on one editor, as a list of whole numbers, and their answers."""

from keyeditor.constants import GREATEST_BYTE, MOST_BYTES, MOST_KEYS
from keyeditor.pressing import press
from keyeditor.state import Editor

TEXT = 0
KEYS = 1


def is_refused(call, row):
    most = MOST_KEYS if call == KEYS else MOST_BYTES
    return len(row) > most or any([number > GREATEST_BYTE for number in row])


def counted(numbers):
    return [len(numbers)] + numbers


def places_of(selections):
    places = []
    for one in selections.each:
        places.append(one.anchor)
        places.append(one.hand)
    return places


def answer_of_selected(editor):
    return [editor.selected.main, len(editor.selected.each)] + places_of(editor.selected)


def answer_of_keys(editor, keys):
    for key in keys:
        press(editor, key)
    return [editor.mode, len(editor.text)] + answer_of_selected(editor)


def answer_of_shows(editor):
    return counted(editor.text)


def answer_of_selections(editor):
    if editor.kept is None:
        return answer_of_selected(editor) + [0]
    return answer_of_selected(editor) + [len(editor.kept.each) + 1] + places_of(editor.kept)


def answer_of_registers(editor):
    answer = [len(editor.pieces)]
    for piece in editor.pieces:
        answer.extend(counted(piece))
    return answer + counted(editor.searched) + counted(editor.last_change)


# 0 stands for no recording, so one that has no keys yet is 1.
def answer_of_macro(editor):
    if editor.recorded is None:
        return counted(editor.macro) + [0]
    return counted(editor.macro) + [len(editor.recorded) + 1] + editor.recorded


def answer_of_steps(editor):
    return [len(editor.undoable), len(editor.redoable), editor.count]


# The calls that are handed nothing: they only tell.
TELLING = {
    2: answer_of_shows,
    3: answer_of_selections,
    4: answer_of_registers,
    5: answer_of_macro,
    6: answer_of_steps,
}


def answer_of(editor, call, row):
    if call == KEYS:
        return answer_of_keys(editor, row)
    action = TELLING[call]
    return action(editor)


# Calls as (number, row), the row empty for calls that are handed none.
def calls_in(numbers):
    calls = []
    at = 0
    while at < len(numbers):
        call = numbers[at]
        at += 1
        row = []
        if call in (TEXT, KEYS):
            behind = at + 1 + numbers[at]
            row = numbers[at + 1:behind]
            at = behind
        calls.append((call, row))
    return calls


def answers(calls):
    editor = Editor([])
    given = []
    for call, row in calls_in(calls):
        if is_refused(call, row):
            answer = [-1]
        elif call == TEXT:
            editor = Editor(row)
            answer = [len(row)]
        else:
            answer = answer_of(editor, call, row)
        given.append(len(answer))
        given.extend(answer)
    return given
