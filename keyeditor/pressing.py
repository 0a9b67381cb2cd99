"""Keys as they are pressed: which command a key is, undoing, doing again, recording and playing."""

from keyeditor.choosing import do_choosing
from keyeditor.constants import BYTE_OF_R, GREATEST_COUNT, INSERT, MOST_KEYS_FOR_ONE, NORMAL, PROMPT
from keyeditor.editing import begin_edit, do_byte_of_r, do_editing, do_insert_key
from keyeditor.finding import begin_prompt, do_finding, do_prompt_key
from keyeditor.texts import is_digit

DIGIT_0 = 48
KEY_Q = 113


def undo(editor):
    for time in range(editor.times()):
        if editor.undoable:
            editor.redoable.append(editor.now())
            editor.go_back_to(editor.undoable.pop())


def redo(editor):
    for time in range(editor.times()):
        if editor.redoable:
            editor.undoable.append(editor.now())
            editor.go_back_to(editor.redoable.pop())


# More keys than may be done for one that is pressed would only be dropped later.
def let_come(editor, came):
    coming = []
    for time in range(editor.times()):
        if len(coming) < MOST_KEYS_FOR_ONE:
            coming.extend(came)
    coming.extend(editor.coming)
    editor.coming = coming[:MOST_KEYS_FOR_ONE]


def play_last_change(editor):
    let_come(editor, editor.last_change)


def play_macro(editor):
    let_come(editor, editor.macro)


# Never a step or the last change themselves.
NEVER_STEPS = {
    117: undo,  # u
    85: redo,  # U
    46: play_last_change,  # .
    64: play_macro,  # @
}


def is_digit_of_count(editor, key):
    return is_digit(key) and (key != DIGIT_0 or editor.count != 0)


def begin_longer_command(editor, key):
    return begin_edit(editor, key) or begin_prompt(editor, key)


# Each of these leaves alone what is no key of its own, so that a key of none (27, and q where it is played, too)
# does nothing but end the command.
def do_whole_command(editor, key):
    do_choosing(editor, key)
    do_editing(editor, key)
    do_finding(editor, key)


def do_normal_key(editor, key):
    if is_digit_of_count(editor, key):
        editor.count = min(editor.count * 10 + key - DIGIT_0, GREATEST_COUNT)
    elif key in NEVER_STEPS:
        action = NEVER_STEPS[key]
        action(editor)
        editor.end_command()
    elif not begin_longer_command(editor, key):
        do_whole_command(editor, key)
        editor.end_command_as_step()


def do_key(editor, key):
    editor.add_to_command(key)
    if editor.mode == INSERT:
        do_insert_key(editor, key)
    elif editor.mode == PROMPT:
        do_prompt_key(editor, key)
    elif editor.mode == BYTE_OF_R:
        do_byte_of_r(editor, key)
    else:
        do_normal_key(editor, key)


def switch_recording(editor):
    editor.end_command()
    if editor.recorded is None:
        editor.recorded = []
    else:
        editor.macro = editor.recorded
        editor.recorded = None


def do_with_what_comes(editor, key):
    editor.coming = [key]
    left = MOST_KEYS_FOR_ONE
    while editor.coming and left > 0:
        left -= 1
        do_key(editor, editor.coming.pop(0))
    editor.coming = []


def press(editor, key):
    if key == KEY_Q and editor.mode == NORMAL:
        switch_recording(editor)
        return
    if editor.recorded is not None:
        editor.recorded.append(key)
    do_with_what_comes(editor, key)
