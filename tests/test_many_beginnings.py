"""next where very many beginnings lead nowhere: an answer all the same, and little kept on the way."""

import itertools
import signal
import unittest
from unittest import mock

from asks import next_row, numbers, scan
from versefeet.finishing import Finisher
from versefeet.measures import read_measure
from versefeet.rows import RowFinder

SECONDS = 120


def spelled(*parts):
    return ["".join(choice) for choice in itertools.product(*parts)]


# 48 words that may all be four longs.
FILLERS = spelled(("n", "nt", "bl"), ("I",), ("I", "ibl"), ("I", "ibl"), ("I", "Is", "ibl", "is"))
# Words that may all be two shorts and a long.
RARE = ["niiI", "niiIs", "niiibl", "niiis", "niiblI", "nibliI"]
# 24 words that may all be two longs.
PAIRS = spelled(("n", "nt", "bl"), ("I", "ibl"), ("I", "Is", "ibl", "is"))

BEHIND = "|".join(["----"] * 6 + ["uu-"] * 6)
BETWEEN = "|".join(["----", "uu-"] * 6)
TWELVE_PAIRS = "|".join(["--"] * 12)


def finder_of(measure, stock, most=12):
    return RowFinder(read_measure(numbers(measure)), stock, most)


def count_notes(finisher):
    count = 0
    for knot in finisher.knots.values():
        count += len(knot.finishes) + sum(len(notes) for notes in knot.lacks.values())
    return count


def no_answer(number, frame):
    raise AssertionError("no answer within %d seconds" % SECONDS)


class TimedTest(unittest.TestCase):
    def setUp(self):
        signal.signal(signal.SIGALRM, no_answer)
        signal.alarm(SECONDS)

    def tearDown(self):
        signal.alarm(0)


class WordsTest(unittest.TestCase):
    def test_the_words_are_different_and_fit_where_they_should(self):
        for words, way, other in ((FILLERS, "----", "uu-"), (RARE, "uu-", "----"), (PAIRS, "--", "uu-")):
            self.assertEqual(len(set(words)), len(words))
            for word in words:
                self.assertEqual(scan(way, word), [1], word)
                self.assertEqual(scan(other, word), [0], word)
            for number in range(len(words)):
                self.assertEqual(scan(way + "|" + way, words[number] + " " + words[number - 1]), [1])
        sorts = finder_of("-", FILLERS + RARE).stock.sorts
        self.assertEqual(len(sorts), len(FILLERS + RARE))


class ManyBeginningsTest(TimedTest):
    def test_behind_many_choices_one_word_is_lacking(self):
        self.assertEqual(next_row(12, BEHIND, [], FILLERS + RARE[:5]), [0])
        row = [0, 1, 2, 3, 4, 5, 48, 49, 50, 51, 52, 53]
        self.assertEqual(next_row(12, BEHIND, [], FILLERS + RARE), [12] + row)
        self.assertEqual(next_row(11, BEHIND, [], FILLERS + RARE), [0])

    def test_between_many_choices_one_word_is_lacking(self):
        self.assertEqual(next_row(12, BETWEEN, [], FILLERS + RARE[:5]), [0])
        row = [0, 48, 1, 49, 2, 50, 3, 51, 4, 52, 5, 53]
        self.assertEqual(next_row(12, BETWEEN, [], FILLERS + RARE), [12] + row)

    def test_words_that_are_the_same_are_used_up(self):
        self.assertEqual(next_row(12, BETWEEN, [], FILLERS + RARE[:1] * 5), [0])
        row = [0, 48, 1, 49, 2, 50, 3, 51, 4, 52, 5, 53]
        self.assertEqual(next_row(12, BETWEEN, [], FILLERS + RARE[:1] * 6), [12] + row)
        self.assertEqual(next_row(12, BETWEEN, [], FILLERS + RARE[:2] * 2 + RARE[1:2]), [0])
        self.assertEqual(next_row(12, BETWEEN, [], FILLERS + RARE[:2] * 3), [12] + row)

    def test_eleven_words_where_twelve_are_needed(self):
        self.assertEqual(next_row(12, TWELVE_PAIRS, [], PAIRS[:11] + RARE), [0])
        self.assertEqual(next_row(12, TWELVE_PAIRS, [], PAIRS[:12] + RARE), [12] + list(range(12)))
        self.assertEqual(next_row(12, TWELVE_PAIRS, list(range(11, -1, -1)), PAIRS[:12] + RARE), [0])

    def test_the_last_row_of_very_many(self):
        last = [47, 46, 45, 44, 43, 42, 53, 52, 51, 50, 49, 48]
        self.assertEqual(next_row(12, BEHIND, last, FILLERS + RARE), [0])
        self.assertEqual(next_row(12, BEHIND, last[:6] + [53, 52, 51, 50, 48, 49], FILLERS + RARE), [12] + last)
        self.assertEqual(next_row(12, BEHIND, last[:5] + [41] + last[6:], FILLERS + RARE),
                         [12] + last[:6] + [48, 49, 50, 51, 52, 53])

    def test_words_of_which_one_is_needed_twice(self):
        measure = "|".join(["----"] * 5 + ["uu-"] + ["----"] * 5 + ["uu-"])
        self.assertEqual(next_row(12, measure, [], FILLERS + RARE[:1]), [0])
        self.assertEqual(next_row(12, measure, [], FILLERS + RARE[:2]),
                         [12, 0, 1, 2, 3, 4, 48, 5, 6, 7, 8, 9, 49])

    def test_no_choice_of_very_many_has_so_few_bytes(self):
        # Of 12 words, 256 is what they may cost with a blank each.
        wide = [("s" * 20 + word)[-22:] for word in PAIRS] + [("s" * 20 + word)[-22:] for word in PAIRS[:20]]
        narrow = [("s" * 20 + word)[-19:] for word in PAIRS]
        self.assertEqual(next_row(12, TWELVE_PAIRS, [], wide), [0])
        self.assertEqual(next_row(12, TWELVE_PAIRS, [], wide + narrow[:6]), [0])
        self.assertEqual(next_row(12, TWELVE_PAIRS, [], wide + narrow[:7]),
                         [12, 0, 1, 2, 3, 4, 44, 45, 46, 47, 48, 49, 50])
        self.assertEqual(next_row(12, "|".join(["--"] * 11), [], wide), [11] + list(range(11)))


class KeptTest(TimedTest):
    def test_notes_do_not_grow_with_the_choices(self):
        for measure in (BEHIND, BETWEEN):
            kept = []
            for count in (12, 24, 48):
                finder = finder_of(measure, FILLERS[::48 // count] + RARE[:5])
                self.assertEqual(finder.first_behind([]), [])
                kept.append(count_notes(finder.finisher))
            self.assertLess(max(kept), 2000)
            self.assertLess(kept[2], 2 * kept[0] + 100)

    def test_no_more_notes_than_are_allowed(self):
        # They are counted after each one that is kept, not at the end alone.
        counts = []
        keep = Finisher.keep

        def watched_keep(finisher, knot, note):
            keep(finisher, knot, note)
            counts.append(count_notes(finisher))

        for most in (1, 7, 60):
            with mock.patch("versefeet.finishing.NOTES_MOST", most), mock.patch.object(Finisher, "keep", watched_keep):
                self.assertEqual(next_row(12, "|".join(["--"] * 5), [], PAIRS[:4] + RARE), [0])
                self.assertEqual(next_row(12, "|".join(["--"] * 5), [], PAIRS[:5] + RARE), [5, 0, 1, 2, 3, 4])
            self.assertEqual(max(counts), most)
            counts.clear()

    def test_notes_are_forgotten_in_a_long_search(self):
        for notes_most in (100, 400):
            with mock.patch("versefeet.finishing.NOTES_MOST", notes_most):
                finder = finder_of(BETWEEN, FILLERS + RARE[:5])
                self.assertEqual(finder.first_behind([]), [])
                self.assertLessEqual(count_notes(finder.finisher), notes_most)


if __name__ == "__main__":
    unittest.main()
