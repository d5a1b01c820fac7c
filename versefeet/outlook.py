"""From where a line that's begun can still be made to scan.

What is told here is never too dark, but may be too bright: that a word is
used once is only reckoned with for the sorts of words that are watched.
"""

from versefeet.words import EITHER, LENGTHS, START, joined_weight


# Words of one sort go alike in every line; supply is how many there are.
class Sort:
    def __init__(self, word, cost):
        self.vowel_first = word.vowel_first
        self.shapes = word.shapes
        self.cost = cost
        self.supply = 0


# A view is a pair of lists: of the places from where a line can be finished,
# by the weight behind its last vowel; the first list where the line ends or
# goes on with no vowel, the second where it goes on with one.
class Outlook:
    def __init__(self, places, sorts, watched):
        self.places = places
        self.sorts = sorts
        self.watched = watched
        self.widest = max([sort.cost for sort in sorts])
        self.views = {}

    # rest: how many words may follow; room: how much they may cost; spare: of
    # each watched sort how many words are left.
    def view(self, rest, room, spare):
        # More room than the widest words can fill is no better: one view serves all.
        key = (rest, min(room, rest * self.widest), spare)
        if key not in self.views:
            self.views[key] = self.make_view(key[0], key[1], spare)
        return self.views[key]

    def make_view(self, rest, room, spare):
        last = self.places.before_syllable(self.places.done, EITHER, True)
        view = ([last] * START + [0], [0] * (START + 1))
        if rest == 0:
            return view
        led = ([0] * START, [0] * START)
        for number, sort in enumerate(self.sorts):
            room_left = room - sort.cost
            spare_left = self.spare_behind(number, spare)
            if room_left >= 0 and spare_left is not None:
                later = self.view(rest - 1, room_left, spare_left)
                for shape, finishing in zip(sort.shapes, later):
                    self.add_shape(view[sort.vowel_first], led[sort.vowel_first], shape, finishing)
        self.add_led(view[0], led[0])
        self.add_led(view[1], led[1])
        return view

    # Gives None where no word of the sort is left.
    def spare_behind(self, number, spare):
        if number not in self.watched:
            return spare
        at = self.watched.index(number)
        if spare[at] == 0:
            return None
        return spare[:at] + (spare[at] - 1,) + spare[at + 1:]

    # A shape with a vowel is only noted under its lead: the syllable ahead of
    # it is closed for all such shapes at once, by add_led.
    def add_shape(self, finishing, led_places, shape, later):
        if shape.weights:
            places = later[shape.weights[-1]]
            for weight in reversed(shape.weights[:-1]):
                places = self.places.before_syllable(places, LENGTHS[weight], False)
            led_places[shape.lead] |= places
        else:
            for weight in range(START + 1):
                finishing[weight] |= later[joined_weight(weight, shape.lead)]

    def add_led(self, finishing, led_places):
        for lead, places in enumerate(led_places):
            finishing[START] |= places
            for weight in range(START):
                length = LENGTHS[joined_weight(weight, lead)]
                finishing[weight] |= self.places.before_syllable(places, length, True)
