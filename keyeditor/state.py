"""What an editor holds, and the beginning and the end of a command."""

from keyeditor.constants import NORMAL
from keyeditor.selections import Selections, carried_selections, caret, tidied
from keyeditor.texts import Carrier


# A text with its selections, as undoing and doing again bring them back.
class Moment:
    def __init__(self, text, selected):
        self.text = text
        self.selected = selected


class Editor:
    def __init__(self, text):
        self.text = text
        self.selected = Selections([caret(0)], 0)
        self.kept = None
        self.mode = NORMAL
        self.count = 0
        self.pieces = []
        self.searched = []
        self.prompt = []
        self.prompt_key = 0
        self.undoable = []
        self.redoable = []
        self.last_change = []
        self.macro = []
        self.recorded = None
        self.coming = []
        self.under_way = []
        self.before = self.now()

    def now(self):
        return Moment(self.text, self.selected)

    def times(self):
        return max(self.count, 1)

    def select(self, each, main):
        self.selected = tidied(each, main)

    # The kept selections go with the text, so every new text comes through here.
    def become(self, text):
        if self.kept is not None:
            self.kept = carried_selections(self.kept, Carrier(self.text, text))
        self.text = text

    def go_back_to(self, moment):
        self.become(moment.text)
        self.selected = moment.selected

    def add_to_command(self, key):
        if not self.under_way:
            self.before = self.now()
        self.under_way.append(key)

    def end_command(self):
        self.mode = NORMAL
        self.count = 0
        self.under_way = []

    def end_command_as_step(self):
        if self.text != self.before.text:
            self.undoable.append(self.before)
            self.redoable = []
            self.last_change = self.under_way
        self.end_command()
