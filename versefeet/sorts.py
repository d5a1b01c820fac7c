"""The stock's words by sorts: words of one sort go alike in every line."""

from versefeet.lines import LINE_MOST
from versefeet.words import Word


# words: a bit for each word of the sort. Which word of a sort has which bit
# doesn't matter: those that a row has used are counted from the lowest bit
# up, those that are to come from the highest one down. So the two meet in a
# bit just when the sort has too few words.
class Sort:
    def __init__(self, word, cost):
        self.vowel_first = word.vowel_first
        self.shapes = word.shapes
        self.cost = cost
        self.words = 0


# What each word takes of the room that a line has, a blank with each. Where
# every row has room enough nothing costs, so that more words are alike.
def costs_of(texts, most):
    costs = [len(text) + 1 for text in texts]
    highest = sorted(costs, reverse=True)
    if sum(highest[:most]) <= LINE_MOST + 1:
        return [0] * len(texts)
    return costs


# Rows that have too many syllables even where each word is passed over as far
# as can be are not looked at: so it may be less than was asked for.
def words_at_most(measure, words, most):
    syllables_most = sum([max([len(way) for way in ways]) for ways in measure.feet])
    fewest = sorted([len(word.shapes[1].weights) for word in words])
    count = min(most, len(words))
    while sum(fewest[:count]) > syllables_most:
        count -= 1
    return count


def sort_key(word, cost):
    shapes = [(shape.lead, tuple(shape.weights)) for shape in word.shapes]
    return (word.vowel_first, shapes[0], shapes[1], cost)


# sorts: every sort once; sort_of: of each word its sort; most: how many words
# a row may have; room: how much they may cost.
class Stock:
    def __init__(self, measure, texts, most):
        words = [Word(text) for text in texts]
        self.most = words_at_most(measure, words, most)
        self.room = LINE_MOST + 1
        keys = [sort_key(word, cost) for word, cost in zip(words, costs_of(texts, self.most))]
        known = {}
        for word, key in zip(words, keys):
            known.setdefault(key, Sort(word, key[-1]))
        self.sorts = list(known.values())
        self.sort_of = [known[key] for key in keys]
        self.give_bits()

    def give_bits(self):
        upcoming = 1
        for sort in self.sorts:
            for number in range(self.sort_of.count(sort)):
                sort.words |= upcoming
                upcoming <<= 1
