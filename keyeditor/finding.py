"""The prompts of s, S and /, and going on to what is searched."""

from keyeditor.constants import ESCAPE, LINE_FEED, MOST_SELECTIONS, PROMPT, RUBOUT
from keyeditor.selections import Selection
from keyeditor.texts import all_places, first_place


def matches_in(text, wanted, one):
    places = all_places(text, wanted, one.begin(), one.end())
    return [Selection(place, place + len(wanted)) for place in places]


def pieces_between(text, wanted, one):
    pieces = []
    begin = one.begin()
    for match in matches_in(text, wanted, one):
        pieces.append(Selection(begin, match.begin()))
        begin = match.end()
    pieces.append(Selection(begin, one.end()))
    return pieces


def select_found(editor, found):
    if 1 <= len(found) <= MOST_SELECTIONS:
        editor.select(found, len(found) - 1)


def choose_matches(editor, wanted):
    found = []
    for one in editor.selected.each:
        found.extend(matches_in(editor.text, wanted, one))
    select_found(editor, found)


def choose_pieces_between(editor, wanted):
    found = []
    for one in editor.selected.each:
        found.extend(pieces_between(editor.text, wanted, one))
    select_found(editor, found)


def place_of_searched(editor):
    wanted = editor.searched
    end = len(editor.text)
    place = first_place(editor.text, wanted, editor.selected.main_one().end(), end)
    if place is None:
        return first_place(editor.text, wanted, 0, end)
    return place


# Gives back one selection, or none in an empty list.
def found_of_searched(editor):
    if not editor.searched:
        return []
    place = place_of_searched(editor)
    if place is None:
        return []
    return [Selection(place, place + len(editor.searched))]


def choose_found(editor):
    select_found(editor, found_of_searched(editor))


def add_found(editor):
    each = editor.selected.each
    if len(each) < MOST_SELECTIONS:
        found = found_of_searched(editor)
        if found:
            editor.select(each + found, len(each))


def search(editor, wanted):
    editor.searched = wanted
    choose_found(editor)


FINDING = {
    110: choose_found,  # n
    78: add_found,  # N
}

PROMPTS = {
    115: choose_matches,  # s
    83: choose_pieces_between,  # S
    47: search,  # /
}


def do_finding(editor, key):
    if key in FINDING:
        action = FINDING[key]
        action(editor)


# Says whether the key was one that begins a prompt.
def begin_prompt(editor, key):
    if key not in PROMPTS:
        return False
    editor.mode = PROMPT
    editor.prompt = []
    editor.prompt_key = key
    return True


def answer_prompt(editor):
    if editor.prompt:
        action = PROMPTS[editor.prompt_key]
        action(editor, editor.prompt)


def do_prompt_key(editor, key):
    if key == LINE_FEED:
        answer_prompt(editor)
        editor.end_command_as_step()
    elif key == ESCAPE:
        editor.end_command_as_step()
    elif key == RUBOUT:
        editor.prompt = editor.prompt[:-1]
    else:
        editor.prompt = editor.prompt + [key]
