import random
import unittest

import oracle
from asks import scan, way

HEXAMETER = "-uu,--|-uu,--|-uu,--|-uu,--|-uu|-u,--"
TITYRE = "tItyre tU patulae recubans sub tegmine fAgI"


def long_measure(last):
    """12 feet that fill 239 bytes, and one more foot."""
    return "|".join(["----,----,----,----"] * 12 + [last])


def padded(taken):
    return [0] + taken + [0] * (16 - len(taken))


class ScanTest(unittest.TestCase):
    def test_an_ordinary_line(self):
        self.assertEqual(scan(HEXAMETER, TITYRE), [2])
        self.assertEqual(way(0, HEXAMETER, TITYRE), padded([0, 0, 0, 1, 0, 0]))
        self.assertEqual(way(1, HEXAMETER, TITYRE), padded([0, 0, 0, 1, 0, 1]))
        self.assertEqual(way(2, HEXAMETER, TITYRE), [-2])

    def test_none_long_where_short_none_short_where_long(self):
        self.assertEqual(scan("-|-", "tata"), [0])
        self.assertEqual(scan("u|-", "tata"), [1])
        self.assertEqual(scan("-|-", "tAta"), [1])
        self.assertEqual(scan("u|-", "tAta"), [0])
        self.assertEqual(scan("-|-", "tatra"), [1])
        self.assertEqual(scan("u|-", "tatra"), [1])

    def test_as_many_as_the_syllables(self):
        self.assertEqual(scan("uu", "tatata"), [0])
        self.assertEqual(scan("uuu", "tatata"), [1])
        self.assertEqual(scan("uuuu", "tatata"), [0])
        self.assertEqual(scan("u|u|u|u", "tatata"), [0])

    def test_a_line_of_one_syllable(self):
        self.assertEqual(scan("-", "ta"), [1])
        self.assertEqual(scan("u", "ta"), [1])
        self.assertEqual(scan("-,u", "ta"), [2])
        self.assertEqual(scan("--", "ta"), [0])

    def test_a_foot_told_the_same_way_twice(self):
        self.assertEqual(scan("u,u|u", "tata"), [2])
        self.assertEqual(way(0, "u,u|u", "tata"), padded([0, 0]))
        self.assertEqual(way(1, "u,u|u", "tata"), padded([1, 0]))
        self.assertEqual(way(2, "u,u|u", "tata"), [-2])

    def test_ways_in_order_by_the_first_foot(self):
        measure = "u,uu|uu,u,-"
        found = [way(k, measure, "tatata") for k in range(4)]
        self.assertEqual(found, [padded([0, 0]), padded([1, 1]), padded([1, 2]), [-2]])

    def test_16_feet_fill_the_answer(self):
        measure = "|".join(["-,u"] * 16)
        self.assertEqual(way(0, measure, "ta" * 16), [0] + [1] * 15 + [0])
        self.assertEqual(way(1, measure, "ta" * 16), [0] + [1] * 16)

    def test_64_syllables_by_16_feet(self):
        measure = "|".join(["uuuu"] * 16)
        self.assertEqual(scan(measure, "ta" * 64), [1])
        self.assertEqual(way(0, measure, "ta" * 64), [0] * 17)
        self.assertEqual(scan(measure, "ta" * 63), [0])


class CutTest(unittest.TestCase):
    def test_a_word_must_end_at_one_of_the_cuts(self):
        self.assertEqual(scan("uu|uu;1.1", "ta tatata"), [1])
        self.assertEqual(scan("uu|uu;1.2", "ta tatata"), [0])
        self.assertEqual(scan("uu|uu;2.1", "tatata ta"), [1])
        self.assertEqual(scan("uu|uu;1.1,2.1", "tatata ta"), [1])
        self.assertEqual(scan("uu|uu;1.1,1.2", "tatata ta"), [0])

    def test_the_last_syllable_ends_a_word(self):
        self.assertEqual(scan("uu|uu;2.2", "tatatata"), [1])

    def test_the_way_taken_tells_where_a_foot_is(self):
        measure = "u,uu|uu,u;2.1"
        self.assertEqual(scan(measure, "tata ta"), [2])
        self.assertEqual(way(0, measure, "tata ta"), padded([0, 0]))
        self.assertEqual(way(1, measure, "tata ta"), padded([1, 1]))
        self.assertEqual(scan(measure, "ta tata"), [1])
        self.assertEqual(way(0, measure, "ta tata"), padded([1, 1]))

    def test_a_foot_has_that_many_places_by_its_way(self):
        measure = "uu,u|u,uu;1.2"
        self.assertEqual(scan(measure, "tata ta"), [1])
        self.assertEqual(way(0, measure, "tata ta"), padded([0, 0]))

    def test_cuts_that_no_foot_reaches(self):
        self.assertEqual(scan("uu|uu;1.3", "ta ta ta ta"), [0])
        self.assertEqual(scan("uu|uu;1.4,2.3,1.2", "ta ta ta ta"), [1])

    def test_more_than_one_cut_met_counts_once(self):
        self.assertEqual(scan("uu|uu;1.1,1.2,2.1,2.2", "ta ta ta ta"), [1])
        self.assertEqual(scan("uu|uu;1.1,1.1", "ta ta ta ta"), [1])

    def test_a_cut_in_the_16th_foot(self):
        measure = "|".join(["u"] * 16)
        self.assertEqual(scan(measure + ";16.1", "ta" * 16), [1])
        self.assertEqual(scan(measure + ";15.1", "ta" * 16), [0])
        self.assertEqual(scan(measure + ";10.1", "ta" * 10 + " " + "ta" * 6), [1])

    def test_where_syllables_are_passed_over(self):
        self.assertEqual(scan("uu|u;1.1", "tata ata"), [1])
        self.assertEqual(scan("uu|u;1.2", "tata ata"), [0])


class ManyWaysTest(unittest.TestCase):
    def test_up_to_a_million(self):
        self.assertEqual(scan("|".join(["u,u"] * 16), "ta" * 16), [65536])
        self.assertEqual(scan("|".join(["u,u,u"] * 12), "ta" * 12), [531441])
        self.assertEqual(scan("|".join(["u,u,u,u"] * 9 + ["u,u,u"]), "ta" * 10), [786432])

    def test_a_million_and_more(self):
        # Each two feet go in ten ways: their long must meet the line's.
        tens = "|".join(["u,u,u,uu|uu-,uu-,uu-,u-"] * 6)
        self.assertEqual(scan(tens, "tatatatA" * 6), [1000000])
        self.assertEqual(way(999999, tens, "tatatatA" * 6), padded([3, 3] * 6))
        self.assertEqual(way(1000000, tens, "tatatatA" * 6), [-2])
        self.assertEqual(scan("|".join(["u,u,u,u"] * 10), "ta" * 10), [1000000])
        self.assertEqual(scan("|".join(["u,u,u"] * 13), "ta" * 13), [1000000])
        self.assertEqual(scan("|".join(["u,u,u,u"] * 16), "ta" * 16), [1000000])

    def test_way_goes_on_behind_a_million(self):
        measure = "|".join(["u,u,u,u"] * 10)
        line = "ta" * 10
        self.assertEqual(way(1000000, measure, line), padded([3, 3, 1, 0, 0, 2, 1, 0, 0, 0]))
        self.assertEqual(way(1048575, measure, line), padded([3] * 10))
        self.assertEqual(way(1048576, measure, line), [-2])

    def test_way_up_to_the_last_k_there_is(self):
        measure = "|".join(["u,u,u,u"] * 16)
        line = "ta" * 16
        self.assertEqual(way(0, measure, line), [0] * 17)
        self.assertEqual(way(4294967294, measure, line), [0] + [3] * 15 + [2])
        self.assertEqual(way(4294967295, measure, line), [0] + [3] * 16)
        self.assertEqual(way(4294967295, measure + ";1.2", line), [-2])
        self.assertEqual(way(4294967295, "|".join(["u,u,u,u"] * 15 + ["u,u,u,-"]), "ta" * 16), [0] + [3] * 16)
        self.assertEqual(way(4294967295, "|".join(["u,u,u,-"] + ["u,u,u,u"] * 15), "ta" * 16), [-2])

    def test_k_numbers_the_feet_by_four(self):
        measure = "|".join(["u,u,u,u"] * 16)
        source = random.Random(3)
        for number in range(20):
            taken = [source.randrange(4) for foot in range(16)]
            k = sum(choice * 4 ** (15 - foot) for foot, choice in enumerate(taken))
            self.assertEqual(way(k, measure, "ta" * 16), [0] + taken)


class ScanRefusalTest(unittest.TestCase):
    def refused(self, measure):
        self.assertEqual(scan(measure, "ta"), [-22], measure)
        self.assertEqual(way(0, measure, "ta"), [-22], measure)

    def taken(self, measure):
        self.assertIn(scan(measure, "ta"), ([0], [1], [2], [4]), measure)
        self.assertIn(way(5, measure, "ta"), ([-2],), measure)

    def test_how_long_a_measure_is(self):
        self.refused("")
        self.taken("-")
        self.assertEqual(len(long_measure("----,----,---,-")), 255)
        self.taken(long_measure("----,----,---,-"))
        self.assertEqual(len(long_measure("----,----,----,-")), 256)
        self.refused(long_measure("----,----,----,-"))
        self.refused("-" * 300)

    def test_feet(self):
        self.taken("|".join(["u"] * 16))
        self.refused("|".join(["u"] * 17))
        for measure in ("|", "u|", "|u", "u||u", "u|u|", ";1.1", "|;1.1"):
            self.refused(measure)

    def test_ways(self):
        self.taken("u,u,u,u")
        self.refused("u,u,u,u,u")
        self.refused("u|u,u,u,u,u")
        for measure in (",", "u,", ",u", "u,,u", "u|,u", "u,|u"):
            self.refused(measure)

    def test_places(self):
        self.taken("-u-u")
        self.refused("-u-u-")
        self.refused("u|u,-----")

    def test_every_byte_in_a_measure(self):
        for byte in range(256):
            self.assertEqual(scan([byte], "ta") == [-22], byte not in (45, 117), byte)
            self.assertEqual(scan([45, byte, 45], "ta") == [-22], byte not in (45, 117, 44, 124), byte)

    def test_cuts(self):
        self.taken("u|u;" + ",".join(["1.1"] * 8))
        self.refused("u|u;" + ",".join(["1.1"] * 9))
        for cut in ("1.1", "2.1", "2.4", "1.1,2.2"):
            self.taken("u|u;" + cut)
        for cut in ("", ",", "1.1,", ",1.1", "1", "1.", ".1", ".", "1.1.1", "1.1;", "1.1;1.1", ";", "u", "-1.1", "1|1"):
            self.refused("u|u;" + cut)

    def test_numbers_in_cuts(self):
        for cut in ("0.1", "3.1", "1.0", "1.5", "01.1", "1.01", "001.1", "1.11", "11.1", "00.1", "1.00", "16.1"):
            self.refused("u|u;" + cut)
        sixteen = "|".join(["u"] * 16)
        for foot in range(1, 17):
            self.taken(sixteen + ";" + str(foot) + ".4")
        for foot in (0, 17, 20, 99, 100, 116):
            self.refused(sixteen + ";" + str(foot) + ".1")

    def test_feet_and_cuts_in_their_places(self):
        for measure in ("1.1;u", "u;1.1|u", "u|1.1", "u;1.1;u", "u.u", "u1", "1"):
            self.refused(measure)

    def test_lines(self):
        for line in ("", "a" * 256, "ta-", "B", [97, 0], [97, 255]):
            self.assertEqual(scan("u", line), [-23], line)
            self.assertEqual(way(0, "u", line), [-23], line)
        self.assertEqual(scan("u", "a" + " " * 254), [1])
        self.assertEqual(scan("u", "a"), [1])

    def test_syllables(self):
        for line in (" ", "t", "qu h", "ta" * 65):
            self.assertEqual(scan("u", line), [-71], line)
            self.assertEqual(way(0, "u", line), [-71], line)
        self.assertEqual(scan("u", "ta" * 64), [0])
        self.assertEqual(way(0, "u", "ta" * 64), [-2])

    def test_the_first_told_is_answered(self):
        self.assertEqual(scan("", ""), [-22])
        self.assertEqual(scan("x", "B"), [-22])
        self.assertEqual(scan("x", "t"), [-22])
        self.assertEqual(scan("u", "t-"), [-23])
        self.assertEqual(way(9, "", ""), [-22])
        self.assertEqual(way(9, "x", "t"), [-22])
        self.assertEqual(way(9, "u", "t-"), [-23])
        self.assertEqual(way(9, "u", "t"), [-71])
        self.assertEqual(way(9, "u", "ta"), [-2])
        self.assertEqual(way(0, "uu", "ta"), [-2])


class ScanHoldsTest(unittest.TestCase):
    def setUp(self):
        self.source = random.Random(21)

    def random_measure(self):
        feet = []
        for foot in range(self.source.randint(1, 5)):
            sizes = [self.source.choice([1, 1, 2, 2, 3, 4]) for number in range(self.source.randint(1, 4))]
            feet.append(",".join("".join(self.source.choice("-u") for place in range(size)) for size in sizes))
        cuts = [
            str(self.source.randint(1, len(feet))) + "." + str(self.source.randint(1, 4))
            for number in range(self.source.choice([0, 0, 1, 2, 8]))]
        return "|".join(feet) + (";" + ",".join(cuts) if cuts else "")

    def random_line(self):
        signs = self.source.choice(["aeiAqumhtlrx ", "ae mth", "aeiouyAEIOUYbcdfghjklmnpqrstvwxz    "])
        return "".join(self.source.choice(signs) for number in range(self.source.randint(1, 14)))

    def test_each_way_of_all_is_got_once_in_order(self):
        with_ways = 0
        for number in range(1500):
            measure = self.random_measure()
            line = self.random_line()
            if not oracle.syllables(line):
                continue
            ways = oracle.all_ways(measure, line)
            with_ways += bool(ways)
            self.assertEqual(scan(measure, line), [len(ways)], (measure, line))
            found = [way(k, measure, line) for k in range(len(ways) + 1)]
            self.assertEqual(found, [padded(taken) for taken in ways] + [[-2]], (measure, line))
        self.assertGreater(with_ways, 50)

    def test_blanks_change_nothing(self):
        for number in range(300):
            measure = self.random_measure()
            line = self.random_line()
            wider = "  " + line.replace(" ", "   ") + " "
            self.assertEqual(scan(measure, wider), scan(measure, line), (measure, line))
            self.assertEqual(way(0, measure, wider), way(0, measure, line), (measure, line))


if __name__ == "__main__":
    unittest.main()
