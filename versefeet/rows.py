"""Rows of words whose lines scan, found one behind another.

The rows are gone through in their order, word by word; what begins in a way
that can't be finished is left at once. Beginnings that were gone through in
vain are noted, and so are the sorts of words whose lack was to blame.
"""

from versefeet.lines import LINE_MOST
from versefeet.outlook import Outlook, Sort
from versefeet.places import Places
from versefeet.words import EITHER, LENGTHS, START, Word, joined_weight

# How many beginnings may be gone through in vain before a sort is watched,
# and how many views of one length the watched sorts may ask for. Neither
# changes what is found, only how soon.
PATIENCE = 8
VIEWS_MOST = 1024


# A row that's begun. used: the sorts of its words; states: the weight behind
# its last vowel, and the places where its line may be ahead of that vowel's
# syllable; the first where the line ends or goes on with no vowel, the second
# where it goes on with one.
class Beginning:
    def __init__(self, row, used, states, room):
        self.row = row
        self.used = used
        self.states = states
        self.room = room
        self.upcoming = 0
        self.is_whole = True

    # Beginnings with one key can be finished by the same sorts of words.
    def key(self):
        return (self.used, self.states)


# What each word takes of the room that a line has, a blank with each. Where
# every row has room enough nothing costs, so that more words are alike.
def costs_of(texts, most):
    costs = [len(text) + 1 for text in texts]
    highest = sorted(costs, reverse=True)
    if sum(highest[:most]) <= LINE_MOST + 1:
        return [0] * len(texts)
    return costs


# Rows that have too many syllables even where each word is passed over as far
# as can be are not looked at: so most may be less than was asked for.
def words_at_most(measure, words, most):
    syllables_most = sum([max([len(way) for way in ways]) for ways in measure.feet])
    fewest = sorted([len(word.shapes[1].weights) for word in words])
    count = min(most, len(words))
    while sum(fewest[:count]) > syllables_most:
        count -= 1
    return count


def sort_key(word, cost):
    shapes = [(shape.lead, tuple(shape.weights)) for shape in word.shapes]
    return (word.vowel_first, shapes[0], shapes[1], cost)


class RowFinder:
    def __init__(self, measure, texts, most):
        words = [Word(text) for text in texts]
        self.most = words_at_most(measure, words, most)
        self.places = Places(measure)
        self.sorts = []
        self.sort_numbers = []
        self.add_words(words, costs_of(texts, self.most))
        self.outlook = Outlook(self.places, self.sorts, [])
        self.vain = {}
        self.blamed = {}
        self.patience = PATIENCE

    def add_words(self, words, costs):
        known = {}
        for word, cost in zip(words, costs):
            key = sort_key(word, cost)
            if key not in known:
                known[key] = len(self.sorts)
                self.sorts.append(Sort(word, cost))
            sort = self.sorts[known[key]]
            sort.supply += 1
            self.sort_numbers.append(known[key])

    # The first row that scans and comes behind the one given; an empty one
    # where there's none.
    def first_behind(self, after):
        path = self.path_to(after)
        while path:
            beginning = path[-1]
            if beginning.upcoming == len(self.sort_numbers):
                self.give_up(beginning)
                path.pop()
                continue
            longer = self.with_word(beginning, beginning.upcoming)
            beginning.upcoming += 1
            if longer is not None and self.is_hopeful(longer):
                if self.scans(longer):
                    return longer.row
                path.append(longer)
        return []

    # Of these beginnings only what comes behind the row is gone through, so
    # none of them is searched as a whole; and they may be longer than most.
    def path_to(self, after):
        state = (START, self.places.first)
        beginning = Beginning([], (), (state, state), LINE_MOST + 1)
        beginning.is_whole = False
        path = [beginning]
        for number in after:
            longer = self.with_sort(beginning, self.sort_numbers[number], beginning.row + [number])
            longer.is_whole = False
            beginning.upcoming = number + 1
            path.append(longer)
            beginning = longer
        return path

    # Gives None where the row is full or has the word.
    def with_word(self, beginning, number):
        if len(beginning.row) >= self.most or number in beginning.row:
            return None
        return self.with_sort(beginning, self.sort_numbers[number], beginning.row + [number])

    def with_sort(self, beginning, number, row):
        sort = self.sorts[number]
        state = beginning.states[sort.vowel_first]
        states = (self.spoken(state, sort.shapes[0]), self.spoken(state, sort.shapes[1]))
        used = tuple(sorted(beginning.used + (number,)))
        return Beginning(row, used, states, beginning.room - sort.cost)

    def spoken(self, state, shape):
        weight = joined_weight(state[0], shape.lead)
        places = state[1]
        if not shape.weights:
            return (weight, places)
        if weight != START:
            places = self.places.after_syllable(places, LENGTHS[weight], True)
        for inner in shape.weights[:-1]:
            places = self.places.after_syllable(places, LENGTHS[inner], False)
        return (shape.weights[-1], places)

    def scans(self, beginning):
        state = beginning.states[0]
        ended = self.places.after_syllable(state[1], EITHER, True)
        return state[0] != START and (ended & self.places.done) != 0

    def is_hopeful(self, beginning):
        return beginning.room >= 0 and beginning.key() not in self.vain and self.can_go_on(beginning)

    def can_go_on(self, beginning):
        spare = [self.sorts[number].supply - beginning.used.count(number) for number in self.outlook.watched]
        view = self.outlook.view(self.most - len(beginning.row), beginning.room, tuple(spare))
        for state, finishing in zip(beginning.states, view):
            if state[1] & finishing[state[0]]:
                return True
        return False

    def give_up(self, beginning):
        if not beginning.is_whole:
            return
        self.vain[beginning.key()] = True
        if len(beginning.row) < self.most:
            self.blame_lack(beginning)
        self.patience -= 1
        if self.patience <= 0 and self.blamed:
            self.watch_most_blamed()

    # A sort is to blame if its words are used up and one more would do.
    def blame_lack(self, beginning):
        for number in sorted(set(beginning.used)):
            is_used_up = beginning.used.count(number) == self.sorts[number].supply
            if is_used_up and number not in self.outlook.watched:
                wished = self.with_sort(beginning, number, beginning.row + [-1])
                if wished.room >= 0 and self.can_go_on(wished):
                    self.blamed[number] = self.blamed.get(number, 0) + 1

    def watch_most_blamed(self):
        worst = max(list(self.blamed), key=lambda number: self.blamed[number])
        watched = self.outlook.watched + [worst]
        views = 1
        for number in watched:
            views *= self.sorts[number].supply + 1
        self.blamed = {}
        self.patience = PATIENCE * views
        if views <= VIEWS_MOST:
            self.outlook = Outlook(self.places, self.sorts, watched)
