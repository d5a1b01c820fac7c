"""The signs that lines, words and measures are written in."""

VOWELS = "aeiouyAEIOUY"
LETTERS = "abcdefghijklmnopqrstuvwxyzAEIOUY"
BLANK = " "
MEASURE_SIGNS = "-u|,;.0123456789"


# Gives None where a number stands for none of the signs.
def text_of(numbers, signs):
    known = {}
    for sign in signs:
        known[ord(sign)] = sign
    found = [known.get(number) for number in numbers]
    if None in found:
        return None
    return "".join(found)
