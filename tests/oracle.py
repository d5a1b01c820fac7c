"""The document's words, done the long way round, to hold the program against.

A line is one list of letters with the number of their word; all ways and all
rows are listed one by one. Nothing here is drawn from the program.
"""

import itertools
import re

VOWELS = "aeiouyAEIOUY"


def letters_of(line):
    letters = []
    for number, match in enumerate(re.finditer("[^ ]+", line)):
        word = match.group()
        spoken = re.sub("(?<=q)u", "", word).replace("h", "")
        # A mark keeps what a silent sign stood between from becoming a pair.
        marked = re.sub("(?<=q)u", "_", word).replace("h", "_")
        assert marked.replace("_", "") == spoken
        for part in re.finditer("ae|au|oe|eu|[^_]", marked):
            letters.append((part.group(), number))
    return letters


def is_vowel(letter):
    return letter[0][0] in VOWELS


def left_letters(line):
    letters = letters_of(line)
    word_count = len(line.split())
    words = [[letter for letter in letters if letter[1] == number] for number in range(word_count)]
    left = []
    for number, word in enumerate(words):
        follower = words[number + 1] if number + 1 < word_count else []
        if follower and is_vowel(follower[0]):
            kinds = "".join("v" if is_vowel(letter) else "m" if letter[0] == "m" else "c" for letter in word)
            if kinds.endswith("v"):
                word = word[:-1]
            elif kinds.endswith("vm"):
                word = word[:-2]
        left.extend(word)
    return left


def syllables(line):
    left = left_letters(line)
    spots = [at for at, letter in enumerate(left) if is_vowel(letter)]
    told = []
    for at, spot in enumerate(spots):
        if at + 1 == len(spots):
            told.append(2 + 4)
            continue
        between = left[spot + 1:spots[at + 1]]
        count = sum(2 if letter[0] in "xz" else 1 for letter in between)
        vowel = left[spot]
        if len(vowel[0]) == 2 or vowel[0] in "AEIOUY":
            length = 1
        elif count <= 1:
            length = 0
        elif (len(between) == 2 and between[0][1] == between[1][1]
              and between[0][0] in "bcdfgpt" and between[1][0] in "lr"):
            length = 2
        else:
            length = 1
        told.append(length + (4 if left[spots[at + 1]][1] != vowel[1] else 0))
    return told


def all_ways(measure, line):
    """Every way to scan, in order, as lists of numbers."""
    feet = [foot.split(",") for foot in measure.split(";")[0].split("|")]
    cuts = [cut.split(".") for cut in measure.split(";")[1].split(",")] if ";" in measure else []
    spoken = syllables(line)
    found = []
    for choice in itertools.product(*[range(len(foot)) for foot in feet]):
        ways = [foot[number] for foot, number in zip(feet, choice)]
        signs = "".join(ways)
        if len(signs) != len(spoken):
            continue
        if any((sign, syllable % 4) in (("-", 0), ("u", 1)) for sign, syllable in zip(signs, spoken)):
            continue
        if cuts and not any(is_met(cut, ways, spoken) for cut in cuts):
            continue
        found.append(list(choice))
    return found


def is_met(cut, ways, spoken):
    foot = int(cut[0]) - 1
    place = int(cut[1])
    at = sum(len(way) for way in ways[:foot]) + place - 1
    return place <= len(ways[foot]) and spoken[at] >= 4


def row_scans(measure, stock, row, line_most):
    line = " ".join(stock[number] for number in row)
    return len(line) <= line_most and 1 <= len(syllables(line)) <= 64 and bool(all_ways(measure, line))


def all_rows(measure, stock, most, line_most=255):
    """Every row that scans, in order."""
    rows = []
    for size in range(1, min(most, len(stock)) + 1):
        rows.extend(itertools.permutations(range(len(stock)), size))
    return [list(row) for row in sorted(rows) if row_scans(measure, stock, row, line_most)]
