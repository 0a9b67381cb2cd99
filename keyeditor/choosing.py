"""The commands that only choose: moves, lines, the main one, what is kept aside."""

from keyeditor.selections import Selection, caret, spanning
from keyeditor.texts import is_word_byte, line_begin, line_end


def step_left(text, place):
    return max(place - 1, 0)


def step_right(text, place):
    return min(place + 1, len(text))


def step_down(text, place):
    end = line_end(text, place)
    if end == len(text):
        return end
    column = place - line_begin(text, place)
    return min(end + 1 + column, line_end(text, end + 1))


def step_up(text, place):
    begin = line_begin(text, place)
    if begin == 0:
        return 0
    return min(line_begin(text, begin - 1) + place - begin, begin - 1)


def step_word_on(text, place):
    while place < len(text) and is_word_byte(text[place]):
        place += 1
    while place < len(text) and not is_word_byte(text[place]):
        place += 1
    return place


def step_word_back(text, place):
    while place > 0 and not is_word_byte(text[place - 1]):
        place -= 1
    while place > 0 and is_word_byte(text[place - 1]):
        place -= 1
    return place


STEPS_OF_CARETS = {
    104: step_left,  # h
    108: step_right,  # l
    106: step_down,  # j
    107: step_up,  # k
    119: step_word_on,  # w
    98: step_word_back,  # b
}

STEPS_OF_HANDS = {
    72: step_left,  # H
    76: step_right,  # L
    74: step_down,  # J
    75: step_up,  # K
    87: step_word_on,  # W
    66: step_word_back,  # B
}


# A step that leaves a place where it is would leave it there each further time, so a great count ends early.
def place_after(text, place, step, times):
    for time in range(times):
        stepped = step(text, place)
        if stepped == place:
            return place
        place = stepped
    return place


def hands_after(editor, step):
    return [place_after(editor.text, one.hand, step, editor.times()) for one in editor.selected.each]


def move_carets(editor, key):
    hands = hands_after(editor, STEPS_OF_CARETS[key])
    editor.select([caret(hand) for hand in hands], editor.selected.main)


def move_hands(editor, key):
    hands = hands_after(editor, STEPS_OF_HANDS[key])
    anchors = [one.anchor for one in editor.selected.each]
    editor.select([Selection(anchor, hand) for anchor, hand in zip(anchors, hands)], editor.selected.main)


# The byte 10 that ends a line is the line's own, so a selection that ends behind one does not grow.
def whole_lines(text, one):
    last = one.end() if one.is_caret() else one.end() - 1
    end = min(line_end(text, last) + 1, len(text))
    return spanning(line_begin(text, one.begin()), end, one.looks_left())


def choose_lines(editor):
    editor.select([whole_lines(editor.text, one) for one in editor.selected.each], editor.selected.main)


def choose_whole_text(editor):
    editor.select([Selection(0, len(editor.text))], 0)


def choose_hands(editor):
    editor.select([caret(one.hand) for one in editor.selected.each], editor.selected.main)


def choose_main_alone(editor):
    editor.select([editor.selected.main_one()], 0)


def choose_next_main(editor):
    each = editor.selected.each
    editor.select(each, (editor.selected.main + editor.times()) % len(each))


def keep_aside(editor):
    editor.kept = editor.selected


def choose_kept(editor):
    if editor.kept is not None:
        editor.selected = editor.kept


CHOOSING = {
    120: choose_lines,  # x
    37: choose_whole_text,  # the per cent sign
    59: choose_hands,  # ;
    44: choose_main_alone,  # ,
    41: choose_next_main,  # )
    122: keep_aside,  # z
    90: choose_kept,  # Z
}


def do_choosing(editor, key):
    if key in STEPS_OF_CARETS:
        move_carets(editor, key)
    elif key in STEPS_OF_HANDS:
        move_hands(editor, key)
    elif key in CHOOSING:
        action = CHOOSING[key]
        action(editor)
