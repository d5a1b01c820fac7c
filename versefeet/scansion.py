"""The ways to scan a line by a measure: how many, and each by its number."""

from versefeet.lines import WORD_END
from versefeet.measures import LONG_SIGN
from versefeet.words import LONG, SHORT


# How far a way to scan has come: at which syllable the next foot begins, and
# whether a cut is met already (so it is from the start where none is asked).
class Scansion:
    def __init__(self, measure, syllables):
        self.feet = measure.feet
        self.cuts = measure.cuts
        self.syllables = syllables
        self.met_values = (False, True) if self.cuts else (True,)
        self.counts = self.count_all()
        self.total = self.counts[0][(0, self.met_values[0])]

    def fits(self, way, at):
        if at + len(way) > len(self.syllables):
            return False
        for place, sign in enumerate(way):
            unfit = SHORT if sign == LONG_SIGN else LONG
            if self.syllables[at + place] % WORD_END == unfit:
                return False
        return True

    def meets_cut(self, foot, way, at):
        for cut in self.cuts:
            if cut[0] == foot and cut[1] < len(way) and self.syllables[at + cut[1]] >= WORD_END:
                return True
        return False

    # How many ways there are to go on, this way taken.
    def count_by_way(self, foot, way, at, met, later):
        if not self.fits(way, at):
            return 0
        return later.get((at + len(way), met or self.meets_cut(foot, way, at)), 0)

    def count_from(self, foot, later):
        counts = {}
        for at in range(len(self.syllables)):
            for met in self.met_values:
                counts[(at, met)] = sum([self.count_by_way(foot, way, at, met, later) for way in self.feet[foot]])
        return counts

    # From the last foot back: what can follow a foot is counted before it.
    def count_all(self):
        counts = [{(len(self.syllables), True): 1}]
        for foot in range(len(self.feet) - 1, -1, -1):
            counts.insert(0, self.count_from(foot, counts[0]))
        return counts

    # Of each foot which way is taken; k is below the total.
    def way_numbered(self, k):
        taken = []
        at = 0
        met = self.met_values[0]
        for foot, ways in enumerate(self.feet):
            choice = 0
            count = self.count_by_way(foot, ways[0], at, met, self.counts[foot + 1])
            while k >= count:
                k -= count
                choice += 1
                count = self.count_by_way(foot, ways[choice], at, met, self.counts[foot + 1])
            taken.append(choice)
            met = met or self.meets_cut(foot, ways[choice], at)
            at += len(ways[choice])
        return taken
