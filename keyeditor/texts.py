"""What is asked of a text. A text is a list of bytes; it is never changed in place, a new list is made."""

from keyeditor.constants import LINE_FEED

UNDERLINE = 95


def line_begin(text, place):
    while place > 0 and text[place - 1] != LINE_FEED:
        place -= 1
    return place


def line_end(text, place):
    while place < len(text) and text[place] != LINE_FEED:
        place += 1
    return place


def is_great_letter(byte):
    return 65 <= byte <= 90


def is_small_letter(byte):
    return 97 <= byte <= 122


def is_digit(byte):
    return 48 <= byte <= 57


def is_word_byte(byte):
    return is_small_letter(byte) or is_great_letter(byte) or is_digit(byte) or byte == UNDERLINE


def with_case_swapped(byte):
    if is_great_letter(byte):
        return byte + 32
    if is_small_letter(byte):
        return byte - 32
    return byte


def first_place(text, wanted, begin, end):
    for place in range(begin, end - len(wanted) + 1):
        if text[place:place + len(wanted)] == wanted:
            return place
    return None


def all_places(text, wanted, begin, end):
    places = []
    place = first_place(text, wanted, begin, end)
    while place is not None:
        places.append(place)
        place = first_place(text, wanted, place + len(wanted), end)
    return places


def length_after(text, exchanges):
    length = len(text)
    for begin, end, put in exchanges:
        length += len(put) - (end - begin)
    return length


# Exchanges are (begin, end, what is put there), in order and apart, with places of the text as it was.
# Built from the front this is the same as one after another, the last first, without copying each time.
def text_after(text, exchanges):
    changed = []
    taken = 0
    for begin, end, put in exchanges:
        changed.extend(text[taken:begin])
        changed.extend(put)
        taken = end
    changed.extend(text[taken:])
    return changed


def begins_after(exchanges):
    begins = []
    moved = 0
    for begin, end, put in exchanges:
        begins.append(begin + moved)
        moved += len(put) - (end - begin)
    return begins


def alike_ahead(old, new):
    most = min(len(old), len(new))
    alike = 0
    while alike < most and old[alike] == new[alike]:
        alike += 1
    return alike


def alike_behind(old, new, ahead):
    most = min(len(old), len(new)) - ahead
    alike = 0
    while alike < most and old[len(old) - 1 - alike] == new[len(new) - 1 - alike]:
        alike += 1
    return alike


# Made once for an old and a new text, since many places are carried from the one to the other.
class Carrier:
    def __init__(self, old, new):
        self.ahead = alike_ahead(old, new)
        self.behind = alike_behind(old, new, self.ahead)
        self.old_length = len(old)
        self.new_length = len(new)

    def carried(self, place):
        from_end = self.old_length - place
        if place <= self.ahead:
            return place
        if from_end <= self.behind:
            return self.new_length - from_end
        return self.ahead
