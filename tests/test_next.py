import itertools
import random
import unittest
from unittest import mock

import oracle
from asks import next_row, rows_by_next, scan, speak

HEXAMETER = "-uu,--|-uu,--|-uu,--|-uu,--|-uu|-u,--"


def all_long(count):
    """A measure of so many long syllables, a foot of four as often as can be."""
    return "|".join("-" * min(4, count - at) for at in range(0, count, 4))


class NextTest(unittest.TestCase):
    def test_an_ordinary_stock(self):
        stock = ["tU", "patulae", "sub", "recubans", "tItyre", "fAgI", "tegmine"]
        row = next_row(7, HEXAMETER, [4, 0, 1], stock)
        self.assertEqual(row, [7, 4, 0, 1, 3, 2, 6, 5])
        self.assertEqual(rows_by_next(3, "-uu|-u,--", stock), oracle.all_rows("-uu|-u,--", stock, 3))

    def test_rows_in_order(self):
        self.assertEqual(
            rows_by_next(3, "uu,uuu", ["ta", "pa", "tapa"]),
            [[0, 1], [0, 2], [1, 0], [1, 2], [2], [2, 0], [2, 1]])

    def test_a_row_that_begins_with_one_that_scans(self):
        self.assertEqual(rows_by_next(3, "u,uu,uuu", ["ta", "pa"]), [[0], [0, 1], [1], [1, 0]])
        self.assertEqual(rows_by_next(1, "u,uu,uuu", ["ta", "pa"]), [[0], [1]])

    def test_behind_a_row_that_does_not_scan(self):
        stock = ["ta", "pa", "ka"]
        self.assertEqual(next_row(3, "uu", [0], stock), [2, 0, 1])
        self.assertEqual(next_row(3, "uu", [0, 1, 2], stock), [2, 0, 2])
        self.assertEqual(next_row(3, "uu", [1, 2, 0], stock), [2, 2, 0])
        self.assertEqual(next_row(3, "uu", [2, 0, 1], stock), [2, 2, 1])
        self.assertEqual(next_row(3, "uu", [2, 1, 0], stock), [0])

    def test_the_last_row_of_all(self):
        stock = ["ta", "pa", "ka"]
        self.assertEqual(next_row(2, "uu", [2, 0], stock), [2, 2, 1])
        self.assertEqual(next_row(2, "uu", [2, 1], stock), [0])
        self.assertEqual(next_row(3, "uuu", [2, 1, 0], stock), [0])

    def test_a_stock_of_one_word(self):
        self.assertEqual(next_row(1, "-", [], ["ta"]), [1, 0])
        self.assertEqual(next_row(12, "-", [], ["ta"]), [1, 0])
        self.assertEqual(next_row(12, "-", [0], ["ta"]), [0])
        self.assertEqual(next_row(12, "--", [], ["ta"]), [0])

    def test_words_that_are_the_same_under_two_numbers(self):
        self.assertEqual(rows_by_next(2, "uu", ["ta", "ta"]), [[0, 1], [1, 0]])
        self.assertEqual(rows_by_next(1, "u", ["ta", "ta"]), [[0], [1]])

    def test_a_word_without_a_vowel(self):
        self.assertEqual(next_row(1, "-", [], ["t"]), [0])
        self.assertEqual(rows_by_next(2, "-", ["t", "ta"]), [[0, 1], [1], [1, 0]])
        self.assertEqual(rows_by_next(3, "-u", ["ta", "t", "ka"]), [[0, 1, 2], [2, 1, 0]])
        self.assertEqual(rows_by_next(3, "uu", ["a", "t", "a"]), [[0, 1, 2], [2, 1, 0]])
        self.assertEqual(rows_by_next(2, "-", ["h", "qu"]), [])

    def test_words_that_pass_over_one_another(self):
        every_row = [list(row) for size in (1, 2, 3) for row in itertools.permutations(range(3), size)]
        self.assertEqual(rows_by_next(3, "u", ["a", "em", "hau"]), sorted(every_row))
        self.assertEqual(rows_by_next(2, "uu", ["tata", "a"]), [[0], [0, 1]])
        self.assertEqual(rows_by_next(2, "uuu", ["tata", "a"]), [[1, 0]])
        self.assertEqual(rows_by_next(2, "uu", ["tatam", "at"]), [[0], [0, 1]])

    def test_most_bounds_the_words(self):
        stock = ["ta"] * 14
        measure = "|".join(["u"] * 12)
        self.assertEqual(next_row(12, measure, [], stock), [12] + list(range(12)))
        self.assertEqual(next_row(11, measure, [], stock), [0])
        self.assertEqual(next_row(12, measure + "|u", [], stock), [0])

    def test_no_word_is_used_twice(self):
        self.assertEqual(next_row(12, "uu", [], ["ta"]), [0])
        self.assertEqual(next_row(12, "|".join(["u"] * 12), [], ["ta"] * 11 + ["st"] * 53), [0])

    def test_cuts_in_rows(self):
        stock = ["tata", "ta", "ka"]
        self.assertEqual(rows_by_next(3, "uu|uu;1.1", stock), oracle.all_rows("uu|uu;1.1", stock, 3))
        self.assertEqual(rows_by_next(3, "uu|uu;1.2", stock), oracle.all_rows("uu|uu;1.2", stock, 3))
        self.assertEqual(rows_by_next(3, "uu|uu;1.3", stock), [])


class LongRowTest(unittest.TestCase):
    def test_64_words(self):
        stock = ["st"] * 60 + ["tA", "pA", "kA", "lA"]
        self.assertEqual(next_row(3, "---", [], stock), [3, 60, 61, 62])
        self.assertEqual(next_row(3, "---", [63, 62, 60], stock), [3, 63, 62, 61])
        self.assertEqual(next_row(3, "---", [63, 62, 61], stock), [0])

    def test_64_syllables(self):
        stock = ["tA" * 11] * 5 + ["tA" * 9, "tA" * 10]
        self.assertEqual(next_row(12, all_long(64), [], stock), [6, 0, 1, 2, 3, 4, 5])
        self.assertEqual(next_row(12, all_long(64), [5, 4, 3, 2, 1, 0], stock), [0])

    def test_255_bytes(self):
        # With 11 blanks between 12 words, 244 letters are as many as fit.
        fitting = ["s" * 16 + "tAtA"] * 8 + ["s" * 17 + "tAtA"] * 4
        self.assertEqual(sum(len(word) for word in fitting), 244)
        self.assertEqual(next_row(12, all_long(24), [], fitting), [12] + list(range(12)))
        too_long = ["s" * 16 + "tAtA"] * 7 + ["s" * 17 + "tAtA"] * 5
        self.assertEqual(next_row(12, all_long(24), [], too_long), [0])

    def test_shorter_words_are_found_where_long_ones_do_not_fit(self):
        stock = ["s" * 19 + "tAtA"] * 12 + ["tAtA"] * 3
        row = next_row(12, all_long(24), [], stock)
        self.assertEqual(row, [12] + list(range(10)) + [12, 13])
        line = " ".join(stock[number] for number in row[1:])
        self.assertLessEqual(len(line), 255)
        self.assertEqual(scan(all_long(24), line), [1])

    def test_after_may_have_a_line_that_is_too_long(self):
        stock = ["s" * 21 + "tA"] * 13
        self.assertEqual(next_row(12, all_long(1), list(range(12)), stock), [1, 1])
        self.assertEqual(next_row(12, all_long(10), list(range(12)), stock), [10] + list(range(9)) + [10])

    def test_after_may_have_more_words_than_can_scan(self):
        stock = ["tA" * 11] * 12
        self.assertEqual(next_row(12, all_long(22), list(range(12)), stock), [2, 0, 2])
        self.assertEqual(next_row(12, all_long(22), [11, 10, 0], stock), [0])
        self.assertEqual(next_row(12, all_long(10), list(range(12)), stock), [0])

    def test_a_needed_word_that_is_used_up(self):
        # One word alone has two shorts in a row, and the measure asks for
        # them twice; of others there are many.
        stock = ["tatatAs"] + [head + "A" + tail for head in ("t", "st", "tr", "") for tail in ("s", "st", "")]
        stock = stock + [head + "AtA" + tail for head in ("t", "st", "tr", "") for tail in ("s", "st", "")]
        self.assertEqual(next_row(12, "--|--|uu-|--|uu-|--", [], stock), [0])
        self.assertEqual(next_row(12, "--|--|--|--|uu-|--", [0], stock), [12, 1, 2, 3, 4, 5, 6, 7, 8, 0, 9, 10, 11])

    def test_found_rows_scan_and_none_is_gone_past(self):
        # Behind the words told there's no other row: they are all needed.
        stock = ["tA", "tatA", "tatatA", "tatatatA"]
        self.assertEqual(rows_by_next(4, "-|u-|uu-|uuu-", stock), [[0, 1, 2, 3]])


class NextRefusalTest(unittest.TestCase):
    def test_measures(self):
        for measure in ("", "x", "u|", "u;", "u;2.1", "u," * 4 + "u", "-" * 256):
            self.assertEqual(next_row(1, measure, [], ["ta"]), [-22], measure)

    def test_how_many_words(self):
        self.assertEqual(next_row(1, "u", [], []), [-23])
        self.assertEqual(next_row(1, "u", [], ["ta"]), [1, 0])
        self.assertEqual(next_row(1, "u", [], ["st"] * 63 + ["ta"]), [1, 63])
        self.assertEqual(next_row(1, "u", [], ["ta"] * 65), [-23])
        self.assertEqual(next_row(1, "u", [], ["ta"] * 70), [-23])

    def test_most(self):
        for most in (0, 13, 14, 4294967295):
            self.assertEqual(next_row(most, "u", [], ["ta"]), [-23], most)
        for most in range(1, 13):
            self.assertEqual(next_row(most, "u", [], ["ta"]), [1, 0], most)

    def test_letters(self):
        self.assertEqual(next_row(1, "u", [], ["ta", ""]), [-23])
        self.assertEqual(next_row(1, "u", [], ["a"]), [1, 0])
        self.assertEqual(next_row(1, "u", [], ["s" * 22 + "a"]), [1, 0])
        self.assertEqual(next_row(1, "u", [], ["ta", "s" * 23 + "a"]), [-23])
        self.assertEqual(next_row(1, "u", [], ["s" * 29 + "a"]), [-23])

    def test_every_byte_in_a_word(self):
        allowed = [ord(sign) for sign in "abcdefghijklmnopqrstuvwxyzAEIOUY"]
        for byte in range(1, 256):
            answer = next_row(1, "u", [], ["ta", [97, byte]])
            self.assertEqual(answer, [1, 0] if byte in allowed else [-23], byte)

    def test_after(self):
        stock = ["ta", "pa", "ka"]
        self.assertEqual(next_row(2, "u", [0, 1], stock), [1, 1])
        self.assertEqual(next_row(2, "u", [0, 1, 2], stock), [-24])
        self.assertEqual(next_row(1, "u", [0], stock), [1, 1])
        self.assertEqual(next_row(1, "u", [0, 1], stock), [-24])
        self.assertEqual(next_row(3, "u", [1, 1], stock), [-24])
        self.assertEqual(next_row(3, "u", [1, 0, 1], stock), [-24])
        self.assertEqual(next_row(3, "u", [2], stock), [0])
        self.assertEqual(next_row(3, "u", [3], stock), [-24])
        self.assertEqual(next_row(3, "u", [0, 3], stock), [-24])
        self.assertEqual(next_row(3, "u", [255], stock), [-24])
        self.assertEqual(next_row(12, "u", list(range(12)), ["ta"] * 13), [1, 1])
        self.assertEqual(next_row(12, "u", list(range(13)), ["ta"] * 13), [-24])
        self.assertEqual(next_row(12, "u", list(range(20)), ["ta"] * 64), [-24])
        self.assertEqual(next_row(12, "u", [0, 1, 2, 3], stock), [-24])

    def test_the_first_told_is_answered(self):
        self.assertEqual(next_row(0, "", [9, 9], []), [-22])
        self.assertEqual(next_row(0, "u;", [9, 9], [""]), [-22])
        self.assertEqual(next_row(0, "u", [9, 9], ["ta"]), [-23])
        self.assertEqual(next_row(2, "u", [9, 9], []), [-23])
        self.assertEqual(next_row(2, "u", [9, 9], ["t a"]), [-23])
        self.assertEqual(next_row(2, "u", [9, 9], ["t"]), [-24])


class NextHoldsTest(unittest.TestCase):
    def setUp(self):
        self.source = random.Random(22)

    def random_measure(self, most=3):
        feet = []
        for foot in range(self.source.randint(1, most)):
            sizes = [self.source.choice([1, 1, 2, 2, 3, 4]) for number in range(self.source.randint(1, 4))]
            feet.append(",".join("".join(self.source.choice("-u") for place in range(size)) for size in sizes))
        cuts = [
            str(self.source.randint(1, len(feet))) + "." + str(self.source.randint(1, 4))
            for number in range(self.source.choice([0, 0, 1, 2]))]
        return "|".join(feet) + (";" + ",".join(cuts) if cuts else "")

    def random_stock(self, most):
        signs = self.source.choice(["aeimhtrlAx", "aemth", "aeiouqumtrxh", "tae"])
        sizes = [self.source.randint(1, 4) for number in range(self.source.randint(1, most))]
        return ["".join(self.source.choice(signs) for number in range(size)) for size in sizes]

    def test_all_rows_that_scan_are_got_each_once(self):
        with_rows = 0
        for number in range(250):
            measure = self.random_measure()
            stock = self.random_stock(5)
            most = self.source.randint(1, 6)
            expected = oracle.all_rows(measure, stock, most)
            with_rows += bool(expected)
            self.assertEqual(rows_by_next(most, measure, stock), expected, (measure, stock, most))
        self.assertGreater(with_rows, 50)

    def test_all_rows_where_few_notes_are_kept(self):
        # However little is kept, and however it is looked up, the same is found.
        with_rows = 0
        for number in range(60):
            measure = self.random_measure(5)
            stock = self.random_stock(3) + ["tata", "tA", "a"]
            expected = oracle.all_rows(measure, stock, 6)
            with_rows += bool(expected)
            for notes_most, lacks_most in ((1, 2000), (3, 0), (10, 1), (300000, 0)):
                with mock.patch("versefeet.finishing.NOTES_MOST", notes_most), \
                        mock.patch("versefeet.finishing.LACKS_MOST", lacks_most):
                    self.assertEqual(rows_by_next(6, measure, stock), expected, (measure, stock, notes_most))
        self.assertGreater(with_rows, 20)

    def test_all_rows_where_few_bytes_are_allowed(self):
        with_rows = 0
        for number in range(150):
            measure = self.random_measure()
            stock = self.random_stock(5)
            line_most = self.source.randint(3, 15)
            expected = oracle.all_rows(measure, stock, 5, line_most)
            with_rows += bool(expected)
            with mock.patch("versefeet.sorts.LINE_MOST", line_most):
                self.assertEqual(rows_by_next(5, measure, stock), expected, (measure, stock, line_most))
        self.assertGreater(with_rows, 30)

    def test_behind_whatever_row(self):
        for number in range(60):
            measure = self.random_measure()
            stock = self.random_stock(4)
            most = self.source.randint(1, 4)
            expected = oracle.all_rows(measure, stock, most)
            for size in range(1, min(most, len(stock)) + 1):
                for after in itertools.permutations(range(len(stock)), size):
                    later = [row for row in expected if row > list(after)]
                    answer = [len(later[0])] + later[0] if later else [0]
                    self.assertEqual(next_row(most, measure, after, stock), answer, (measure, stock, most, after))

    def test_a_longer_stock_or_more_words_lose_none(self):
        for number in range(60):
            measure = self.random_measure()
            stock = self.random_stock(3)
            most = self.source.randint(1, 3)
            rows = rows_by_next(most, measure, stock)
            for wider in (rows_by_next(most + 1, measure, stock), rows_by_next(most, measure, stock + ["ta"])):
                self.assertEqual([row for row in rows if row not in wider], [], (measure, stock, most))

    def test_what_is_made_scans(self):
        letters = "bcdfglmnprst"
        for number in range(15):
            stock = []
            while len(stock) < 64:
                parts = [self.source.choice(letters) + self.source.choice(["a", "e", "i", "O", "ae"])
                         for part in range(self.source.randint(1, 4))]
                stock.append("".join(parts) + self.source.choice(["", "m", "s", "x"]))
            after = []
            for step in range(3):
                answer = next_row(12, HEXAMETER + ";3.1,3.2,4.1", after, stock)
                after = answer[1:]
                if after:
                    line = " ".join(stock[word] for word in after)
                    self.assertGreater(speak(line)[0], 0)
                    self.assertGreater(scan(HEXAMETER + ";3.1,3.2,4.1", line)[0], 0)


if __name__ == "__main__":
    unittest.main()
