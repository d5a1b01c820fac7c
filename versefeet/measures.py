"""Measures read: feet, their ways, and cuts."""

from versefeet.signs import MEASURE_SIGNS, text_of

MEASURE_MOST = 255
FEET_MOST = 16
WAYS_MOST = 4
PLACES_MOST = 4
CUTS_MOST = 8
LONG_SIGN = "-"
SHORT_SIGN = "u"


# feet: of each foot its ways, as texts; cuts: (foot, place), both from 0.
class Measure:
    def __init__(self, feet, cuts):
        self.feet = feet
        self.cuts = cuts


def is_way(text):
    signs = text.count(LONG_SIGN) + text.count(SHORT_SIGN)
    return 1 <= len(text) <= PLACES_MOST and signs == len(text)


def is_foot(ways):
    return len(ways) <= WAYS_MOST and all([is_way(way) for way in ways])


# The numbers from 1 on as they must be written: so none has a 0 in front.
def written_numbers(most):
    return [str(number) for number in range(1, most + 1)]


# Gives None where the text is no cut of so many feet.
def read_cut(text, foot_count):
    parts = text.split(".")
    feet = written_numbers(foot_count)
    places = written_numbers(PLACES_MOST)
    if len(parts) != 2 or parts[0] not in feet or parts[1] not in places:
        return None
    return (feet.index(parts[0]), places.index(parts[1]))


# Gives None where a text is no cut, or there are too many.
def read_cuts(texts, foot_count):
    cuts = [read_cut(text, foot_count) for text in texts]
    if len(cuts) > CUTS_MOST or None in cuts:
        return None
    return cuts


# Gives None where the numbers are no measure.
def read_measure(numbers):
    text = text_of(numbers, MEASURE_SIGNS)
    if text is None or not 1 <= len(text) <= MEASURE_MOST:
        return None
    parts = text.split(";")
    feet = [foot.split(",") for foot in parts[0].split("|")]
    if len(parts) > 2 or len(feet) > FEET_MOST or not all([is_foot(foot) for foot in feet]):
        return None
    cuts = read_cuts(parts[1].split(","), len(feet)) if len(parts) == 2 else []
    if cuts is None:
        return None
    return Measure(feet, cuts)
