"""The desk where calls are handed in, as numbers, and answered."""

from versefeet.lines import SYLLABLES_MOST, is_speakable, read_line, syllables_of
from versefeet.measures import FEET_MOST, read_measure
from versefeet.rows import RowFinder
from versefeet.scansion import Scansion
from versefeet.signs import LETTERS, text_of

SPEAK = 0
SCAN = 1
WAY = 2

BAD_FIRST = -22
BAD_SECOND = -23
BAD_THIRD = -24
UNSPEAKABLE = -71
NO_MORE = -2

SCAN_MOST = 1000000
WORD_MOST = 23
STOCK_MOST = 64
ROW_MOST = 12


class Reader:
    def __init__(self, numbers):
        self.numbers = numbers
        self.at = 0

    def is_at_end(self):
        return self.at == len(self.numbers)

    def read_number(self):
        self.at += 1
        return self.numbers[self.at - 1]

    def read_list(self):
        size = self.read_number()
        self.at += size
        return self.numbers[self.at - size:self.at]

    def read_lists(self):
        return [self.read_list() for number in range(self.read_number())]


def padded(numbers, size):
    return numbers + [0] * (size - len(numbers))


def speak(line):
    text = read_line(line)
    if text is None:
        return [BAD_FIRST]
    syllables = syllables_of(text)
    if not is_speakable(syllables):
        return [UNSPEAKABLE]
    return [len(syllables)] + padded(syllables, SYLLABLES_MOST)


# Gives 0 where nothing is to be refused.
def scan_refusal(measure, text):
    if measure is None:
        return BAD_FIRST
    if text is None:
        return BAD_SECOND
    if not is_speakable(syllables_of(text)):
        return UNSPEAKABLE
    return 0


def scan(measure_numbers, line):
    measure = read_measure(measure_numbers)
    text = read_line(line)
    refusal = scan_refusal(measure, text)
    if refusal:
        return [refusal]
    return [min(Scansion(measure, syllables_of(text)).total, SCAN_MOST)]


def way(k, measure_numbers, line):
    measure = read_measure(measure_numbers)
    text = read_line(line)
    refusal = scan_refusal(measure, text)
    if refusal:
        return [refusal]
    scansion = Scansion(measure, syllables_of(text))
    if scansion.total <= k:
        return [NO_MORE]
    return [0] + padded(scansion.way_numbered(k), FEET_MOST)


# Gives None where the lists are no stock.
def read_stock(stock):
    if not 1 <= len(stock) <= STOCK_MOST or not all([1 <= len(word) <= WORD_MOST for word in stock]):
        return None
    texts = [text_of(word, LETTERS) for word in stock]
    return None if None in texts else texts


def is_row(row, stock_size, most):
    return len(row) <= most and len(set(row)) == len(row) and all([number < stock_size for number in row])


def next_row(most, measure_numbers, after, stock):
    measure = read_measure(measure_numbers)
    if measure is None:
        return [BAD_FIRST]
    texts = read_stock(stock)
    if texts is None or not 1 <= most <= ROW_MOST:
        return [BAD_SECOND]
    if not is_row(after, len(texts), most):
        return [BAD_THIRD]
    row = RowFinder(measure, texts, most).first_behind(after)
    return [len(row)] + row


def answer(call, numbers, lists):
    if call == SPEAK:
        return speak(lists[0])
    if call == SCAN:
        return scan(lists[0], lists[1])
    if call == WAY:
        return way(numbers[0], lists[0], lists[1])
    # No other call than next is left.
    return next_row(numbers[0], lists[0], lists[1], lists[2:])


def answers(calls):
    reader = Reader(calls)
    given = []
    while not reader.is_at_end():
        call = reader.read_number()
        numbers = reader.read_list()
        answered = answer(call, numbers, reader.read_lists())
        given.append(len(answered))
        given.extend(answered)
    return given
