"""Lines read, and their syllables."""

from versefeet.signs import BLANK, LETTERS, text_of
from versefeet.words import EITHER, LENGTHS, Word, joined_weight

LINE_MOST = 255
SYLLABLES_MOST = 64
WORD_END = 4


# Gives None where the numbers are no line.
def read_line(numbers):
    if not 1 <= len(numbers) <= LINE_MOST:
        return None
    return text_of(numbers, LETTERS + BLANK)


def shapes_of(text):
    words = [Word(part) for part in text.split(BLANK) if part]
    followers = [word.vowel_first for word in words[1:]] + [0]
    return [word.shapes[follower] for word, follower in zip(words, followers)]


# Of each syllable its length, and WORD_END more if a word ends with it.
def syllables_of(text):
    weights = []
    ends = []
    for shape in shapes_of(text):
        if weights:
            weights[-1] = joined_weight(weights[-1], shape.lead)
        if shape.weights:
            weights.extend(shape.weights)
            ends.extend([0] * (len(shape.weights) - 1) + [WORD_END])
    if not weights:
        return []
    lengths = [LENGTHS[weight] for weight in weights[:-1]] + [EITHER]
    return [length + end for length, end in zip(lengths, ends)]


def is_speakable(syllables):
    return 1 <= len(syllables) <= SYLLABLES_MOST
