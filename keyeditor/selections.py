"""Selections: always in order and apart. None is ever changed once made, so steps may share them."""


class Selection:
    def __init__(self, anchor, hand):
        self.anchor = anchor
        self.hand = hand

    def begin(self):
        return min(self.anchor, self.hand)

    def end(self):
        return max(self.anchor, self.hand)

    def is_caret(self):
        return self.anchor == self.hand

    def looks_left(self):
        return self.hand < self.anchor


class Selections:
    def __init__(self, each, main):
        self.each = each
        self.main = main

    def main_one(self):
        return self.each[self.main]


def caret(place):
    return Selection(place, place)


def spanning(begin, end, looks_left):
    if looks_left:
        return Selection(end, begin)
    return Selection(begin, end)


def touches(first, second):
    if second.begin() < first.end():
        return True
    return second.begin() == first.end() and (first.is_caret() or second.is_caret())


def made_one(first, second, second_is_main):
    looking = second if second_is_main else first
    return spanning(first.begin(), max(first.end(), second.end()), looking.looks_left())


def tidied(each, main):
    order = sorted(range(len(each)), key=lambda k: (each[k].begin(), each[k].end()))
    apart = []
    new_main = 0
    for k in order:
        if apart and touches(apart[-1], each[k]):
            apart[-1] = made_one(apart[-1], each[k], k == main)
        else:
            apart.append(each[k])
        if k == main:
            new_main = len(apart) - 1
    return Selections(apart, new_main)


def carried_selections(selections, carrier):
    moved = [Selection(carrier.carried(one.anchor), carrier.carried(one.hand)) for one in selections.each]
    return tidied(moved, selections.main)
