"""The commands that change the text at all selections, and the keys of insert mode and of r."""

from keyeditor.constants import BYTE_OF_R, ESCAPE, INSERT, LINE_FEED, MOST_BYTES, RUBOUT
from keyeditor.selections import caret, spanning
from keyeditor.texts import begins_after, length_after, line_end, text_after, with_case_swapped


# There is one exchange for each selection; what is put in is selected then, looking as before.
def exchange_at_all(editor, exchanges):
    if length_after(editor.text, exchanges) > MOST_BYTES:
        return
    begins = begins_after(exchanges)
    chosen = []
    for one, begin, exchange in zip(editor.selected.each, begins, exchanges):
        chosen.append(spanning(begin, begin + len(exchange[2]), one.looks_left()))
    editor.become(text_after(editor.text, exchanges))
    editor.select(chosen, editor.selected.main)


def bytes_of_each(editor):
    return [editor.text[one.begin():one.end()] for one in editor.selected.each]


def exchanges_of_each(editor, puts):
    return [(one.begin(), one.end(), put) for one, put in zip(editor.selected.each, puts)]


# Where as many bytes are put for those that are there the selections stay, and steps may share them.
def exchange_for_as_many(editor, puts):
    editor.become(text_after(editor.text, exchanges_of_each(editor, puts)))


def copy_pieces(editor):
    editor.pieces = bytes_of_each(editor)


def take_out(editor):
    copy_pieces(editor)
    exchange_at_all(editor, exchanges_of_each(editor, [[] for one in editor.selected.each]))


# All pieces together are made but once: for many selections and a great count they are long.
def puts_for_each(editor):
    each = editor.selected.each
    if len(editor.pieces) == len(each):
        return [piece * editor.times() for piece in editor.pieces]
    together = []
    for piece in editor.pieces:
        together.extend(piece)
    together = together * editor.times()
    return [together for one in each]


def put_pieces_at(editor, places):
    if editor.pieces:
        puts = puts_for_each(editor)
        exchange_at_all(editor, [(place, place, put) for place, put in zip(places, puts)])


def put_pieces_behind(editor):
    put_pieces_at(editor, [one.end() for one in editor.selected.each])


def put_pieces_ahead(editor):
    put_pieces_at(editor, [one.begin() for one in editor.selected.each])


def swap_case(editor):
    swapped = []
    for piece in bytes_of_each(editor):
        swapped.append([with_case_swapped(byte) for byte in piece])
    exchange_for_as_many(editor, swapped)


def select_carets(editor, places):
    editor.select([caret(place) for place in places], editor.selected.main)


def select_begins(editor):
    select_carets(editor, [one.begin() for one in editor.selected.each])


def select_ends(editor):
    select_carets(editor, [one.end() for one in editor.selected.each])


# Selecting the ends afterwards leaves carets as they are where the text would have been too long.
def put_in_byte(editor, byte):
    exchange_at_all(editor, [(one.begin(), one.begin(), [byte]) for one in editor.selected.each])
    select_ends(editor)


def take_out_bytes_ahead(editor):
    places = [one.begin() for one in editor.selected.each]
    exchange_at_all(editor, [(max(place - 1, 0), place, []) for place in places])


def insert_at_begins(editor):
    select_begins(editor)
    editor.mode = INSERT


def insert_at_ends(editor):
    select_ends(editor)
    editor.mode = INSERT


def insert_instead(editor):
    take_out(editor)
    editor.mode = INSERT


def insert_on_new_line(editor):
    select_carets(editor, [line_end(editor.text, one.end()) for one in editor.selected.each])
    put_in_byte(editor, LINE_FEED)
    editor.mode = INSERT


def ask_for_byte(editor):
    editor.mode = BYTE_OF_R


EDITING = {
    100: take_out,  # d
    121: copy_pieces,  # y
    112: put_pieces_behind,  # p
    80: put_pieces_ahead,  # P
    126: swap_case,  # ~
}

# These are not through with their own key.
BEGINNING_EDITS = {
    105: insert_at_begins,  # i
    97: insert_at_ends,  # a
    99: insert_instead,  # c
    111: insert_on_new_line,  # o
    114: ask_for_byte,  # r
}


def do_editing(editor, key):
    if key in EDITING:
        action = EDITING[key]
        action(editor)


# Says whether the key was one of these commands.
def begin_edit(editor, key):
    if key not in BEGINNING_EDITS:
        return False
    action = BEGINNING_EDITS[key]
    action(editor)
    return True


def do_insert_key(editor, key):
    if key == ESCAPE:
        editor.end_command_as_step()
    elif key == RUBOUT:
        take_out_bytes_ahead(editor)
    else:
        put_in_byte(editor, key)


def do_byte_of_r(editor, key):
    if key != ESCAPE:
        puts = []
        for piece in bytes_of_each(editor):
            puts.append([byte if byte == LINE_FEED else key for byte in piece])
        exchange_for_as_many(editor, puts)
    editor.end_command_as_step()
