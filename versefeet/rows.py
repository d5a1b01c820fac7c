"""Rows of words whose lines scan, found one behind another.

The rows are gone through in their order, word by word; what begins in a way
that can't be finished is left at once.
"""

from versefeet.bits import lowest
from versefeet.finishing import Finisher
from versefeet.outlook import Outlook
from versefeet.places import Places
from versefeet.sorts import Stock
from versefeet.words import START


# A row that's begun. used: a bit for each of its words, as its sort has them;
# states: those of its line, the first where it ends or goes on with no vowel,
# the second where it goes on with one.
class Beginning:
    def __init__(self, row, used, states, room):
        self.row = row
        self.used = used
        self.states = states
        self.room = room
        self.upcoming = 0


class RowFinder:
    def __init__(self, measure, texts, most):
        self.stock = Stock(measure, texts, most)
        self.places = Places(measure)
        outlook = Outlook(self.places, self.stock.sorts, self.stock.most)
        self.finisher = Finisher(self.places, self.stock.sorts, outlook)

    # The first row that scans and comes behind the one given; an empty one
    # where there's none.
    def first_behind(self, after):
        path = self.path_to(after)
        while path:
            beginning = path[-1]
            if beginning.upcoming == len(self.stock.sort_of):
                path.pop()
                continue
            longer = self.with_word(beginning, beginning.upcoming)
            beginning.upcoming += 1
            if longer is not None and self.can_finish(longer):
                if self.scans(longer):
                    return longer.row
                path.append(longer)
        return []

    # Of these beginnings only what comes behind the row is gone through; and
    # they may be longer than most.
    def path_to(self, after):
        state = (START, self.places.first)
        beginning = Beginning([], 0, (state, state), self.stock.room)
        path = [beginning]
        for number in after:
            beginning.upcoming = number + 1
            beginning = self.longer_by(beginning, number)
            path.append(beginning)
        return path

    # Gives None where the row is full or has the word.
    def with_word(self, beginning, number):
        if len(beginning.row) >= self.stock.most or number in beginning.row:
            return None
        return self.longer_by(beginning, number)

    def longer_by(self, beginning, number):
        sort = self.stock.sort_of[number]
        state = beginning.states[sort.vowel_first]
        states = (self.places.after_shape(state, sort.shapes[0]), self.places.after_shape(state, sort.shapes[1]))
        used = beginning.used | lowest(sort.words & ~beginning.used)
        return Beginning(beginning.row + [number], used, states, beginning.room - sort.cost)

    def can_finish(self, beginning):
        rest = self.stock.most - len(beginning.row)
        return self.finisher.can_finish(beginning.states, rest, beginning.used, beginning.room)

    def scans(self, beginning):
        return self.finisher.can_finish(beginning.states, 0, beginning.used, beginning.room)
