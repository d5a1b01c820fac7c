"""A measure as a track of places: where in it a line that's begun may be.

A set of places is one whole number, a bit for each. Every place is there
twice: once with no cut met so far and, half a track further up, once with a
cut met. Behind all the feet there's one place more, where a line is done.
"""

from versefeet.measures import LONG_SIGN
from versefeet.words import LENGTHS, START, joined_weight


# The ways of one foot, laid one behind another from the bit given on. twins:
# of each place the first one from where a way goes on alike; what finishes a
# line from the one finishes it from the other.
class Stretch:
    def __init__(self, ways, cut_places, begin):
        self.size = 0
        self.starts = 0
        self.ends = 0
        self.longs = 0
        self.inner = 0
        self.cuts = 0
        self.twins = {}
        known = {}
        for way in ways:
            self.starts |= 1 << (begin + self.size)
            rest = tuple([(sign, place in cut_places) for place, sign in enumerate(way)])
            while rest:
                bit = 1 << (begin + self.size)
                self.lay_place(bit, rest)
                self.twins[bit] = known.setdefault(rest, bit)
                self.size += 1
                rest = rest[1:]

    # rest: sign, and whether it's a cut, of this place and of all behind it.
    def lay_place(self, bit, rest):
        if len(rest) == 1:
            self.ends |= bit
        else:
            self.inner |= bit
        if rest[0][0] == LONG_SIGN:
            self.longs |= bit
        if rest[0][1]:
            self.cuts |= bit


def stretches_of(measure):
    stretches = []
    begin = 0
    for foot, ways in enumerate(measure.feet):
        cut_places = [cut[1] for cut in measure.cuts if cut[0] == foot]
        stretch = Stretch(ways, cut_places, begin)
        stretches.append(stretch)
        begin += stretch.size
    return stretches


# doors: from the last places of a foot's ways to the first ones of the next
# foot's; fitting: by a syllable's length, the places that it may stand at.
class Places:
    def __init__(self, measure):
        stretches = stretches_of(measure)
        size = sum([stretch.size for stretch in stretches])
        behind_all = 1 << size
        self.half = size + 1
        self.cuts = sum([stretch.cuts for stretch in stretches])
        self.inner = self.twice(sum([stretch.inner for stretch in stretches]))
        starts = [stretch.starts for stretch in stretches] + [behind_all]
        self.doors = []
        for stretch, later_starts in zip(stretches, starts[1:]):
            self.doors.append((stretch.ends, later_starts))
            self.doors.append((stretch.ends << self.half, later_starts << self.half))
        every = self.twice(behind_all - 1)
        longs = self.twice(sum([stretch.longs for stretch in stretches]))
        self.fitting = (every ^ longs, longs, every)
        self.first = starts[0] if measure.cuts else starts[0] << self.half
        self.done = behind_all << self.half
        self.twins = {}
        for stretch in stretches:
            for bit in stretch.twins:
                self.twins[bit] = stretch.twins[bit]
                self.twins[bit << self.half] = stretch.twins[bit] << self.half

    def twice(self, places):
        return places | (places << self.half)

    # Where a line may be once a syllable has been spoken.
    def after_syllable(self, places, length, ends_word):
        standing = places & self.fitting[length]
        if standing == 0:
            return 0
        if ends_word:
            met = standing & self.cuts
            standing = (standing ^ met) | (met << self.half)
        reached = (standing & self.inner) << 1
        for door in self.doors:
            if standing & door[0]:
                reached |= door[1]
        return reached

    # From where a line may come to one of the places by a syllable.
    def before_syllable(self, places, length, ends_word):
        if places == 0:
            return 0
        standing = (places >> 1) & self.inner
        for door in self.doors:
            if places & door[1]:
                standing |= door[0]
        if ends_word:
            met = (standing >> self.half) & self.cuts
            standing = (standing & ~self.cuts) | met
        return standing & self.fitting[length]

    # A state is the weight behind a line's last vowel, and the places where
    # the line may be ahead of that vowel's syllable.
    def after_shape(self, state, shape):
        weight = joined_weight(state[0], shape.lead)
        places = state[1]
        if not shape.weights:
            return (weight, places)
        if weight != START:
            places = self.after_syllable(places, LENGTHS[weight], True)
        for inner in shape.weights[:-1]:
            places = self.after_syllable(places, LENGTHS[inner], False)
        return (shape.weights[-1], places)
