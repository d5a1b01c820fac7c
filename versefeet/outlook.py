"""From where a line that's begun can be made to scan, if words came as often as they are wished.

What is told here is never too dark, but may be too bright: that a word is
used once, and that a line has so many bytes, is not reckoned with.
"""

from versefeet.words import EITHER, LENGTHS, START, joined_weight


# views: by how many words may follow. A view is a pair of lists: of the places
# from where a line can be finished, by the weight behind its last vowel; the
# first list where the line ends or goes on with no vowel, the second where it
# goes on with one.
class Outlook:
    def __init__(self, places, sorts, most):
        self.places = places
        self.sorts = sorts
        self.views = [self.view_of_end()]
        while len(self.views) <= most:
            self.views.append(self.view_ahead(self.views[-1]))

    def view_of_end(self):
        last = self.places.before_syllable(self.places.done, EITHER, True)
        return ([last] * START + [0], [0] * (START + 1))

    # What is seen with one word more than in the view given.
    def view_ahead(self, later):
        view = self.view_of_end()
        led = ([0] * START, [0] * START)
        for sort in self.sorts:
            for shape, finishing in zip(sort.shapes, later):
                self.add_shape(view[sort.vowel_first], led[sort.vowel_first], shape, finishing)
        self.add_led(view[0], led[0])
        self.add_led(view[1], led[1])
        return view

    # A shape with a vowel is only noted under its lead: the syllable ahead of
    # it is closed for all such shapes at once, by add_led.
    def add_shape(self, finishing, led_places, shape, later):
        if shape.weights:
            places = later[shape.weights[-1]]
            for weight in reversed(shape.weights[:-1]):
                places = self.places.before_syllable(places, LENGTHS[weight], False)
            led_places[shape.lead] |= places
        else:
            for weight in range(START + 1):
                finishing[weight] |= later[joined_weight(weight, shape.lead)]

    def add_led(self, finishing, led_places):
        for lead, places in enumerate(led_places):
            finishing[START] |= places
            for weight in range(START):
                length = LENGTHS[joined_weight(weight, lead)]
                finishing[weight] |= self.places.before_syllable(places, length, True)
