"""Words as they sound: which vowels are left, and what lies between them."""

from versefeet.signs import VOWELS

PAIRS = ("ae", "au", "oe", "eu")
DOUBLES = ("x", "z")
STOPS = ("b", "c", "d", "f", "g", "p", "t")
LIQUIDS = ("l", "r")

SHORT = 0
LONG = 1
EITHER = 2

# How much lies behind a vowel, up to the next one. A vowel that is long by
# itself weighs HEAVY from the start: nothing that follows can lighten it.
EMPTY = 0
SINGLE = 1
LOOSE = 2
HEAVY = 3
# Ahead of the first vowel there is nothing to weigh: a start stays a start.
START = 4

# By weight: SHORT, SHORT, EITHER, LONG. Nothing is asked of START.
LENGTHS = (0, 0, 2, 1)


def is_silent(word, at):
    return word[at] == "h" or (word[at] == "u" and word[:at].endswith("q"))


def sound_at(word, at):
    pair = word[at:at + 2]
    return pair if pair in PAIRS else word[at]


# A sound is a consonant, a vowel, or a pair that is one vowel.
def sounds_of(word):
    sounds = []
    at = 0
    while at < len(word):
        sound = sound_at(word, at)
        if not is_silent(word, at):
            sounds.append(sound)
        at += len(sound)
    return sounds


def is_vowel(sound):
    return sound[0] in VOWELS


def is_long(vowel):
    return vowel in PAIRS or vowel.isupper()


# What is left of a word if the next one begins with a vowel.
def without_passed_over(sounds):
    if sounds and is_vowel(sounds[-1]):
        return sounds[:-1]
    if len(sounds) > 1 and sounds[-1] == "m" and is_vowel(sounds[-2]):
        return sounds[:-2]
    return sounds


# The consonants are all of one word.
def weight_of(consonants):
    if not consonants:
        return EMPTY
    if len(consonants) == 1 and consonants[0] not in DOUBLES:
        return SINGLE
    if len(consonants) == 2 and consonants[0] in STOPS and consonants[1] in LIQUIDS:
        return LOOSE
    return HEAVY


# The weights are of two words: consonants on both sides never make a LOOSE
# one, since that takes both in one word.
def joined_weight(weight, lead):
    if weight == START or lead == EMPTY:
        return weight
    if weight == EMPTY:
        return lead
    return HEAVY


# lead: what lies ahead of the first vowel (all there is, if there's no vowel);
# weights: one for each vowel, of what lies behind it in the word.
class Shape:
    def __init__(self, sounds):
        longs = []
        runs = [[]]
        for sound in sounds:
            if is_vowel(sound):
                longs.append(is_long(sound))
                runs.append([])
            else:
                runs[-1].append(sound)
        self.lead = weight_of(runs[0])
        self.weights = [HEAVY if is_heavy else weight_of(run) for is_heavy, run in zip(longs, runs[1:])]


# shapes: the first where the next word begins with no vowel, or there's no
# next word; the second where it begins with one.
class Word:
    def __init__(self, text):
        sounds = sounds_of(text)
        self.vowel_first = 1 if sounds and is_vowel(sounds[0]) else 0
        self.shapes = (Shape(sounds), Shape(without_passed_over(sounds)))
