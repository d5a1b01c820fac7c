import random
import unittest

import oracle
from asks import numbers, speak, syllables

SHORT, LONG, EITHER, END = 0, 1, 2, 4
LAST = EITHER + END


class SpeakTest(unittest.TestCase):
    def test_an_ordinary_line(self):
        self.assertEqual(
            syllables("arma virumque canO troxae"),
            [LONG, SHORT + END, SHORT, LONG, SHORT + END, SHORT, LONG + END, LONG, LAST])

    def test_the_answer_has_the_count_and_64_numbers(self):
        self.assertEqual(speak("amata"), [3, 0, 0, 6] + [0] * 61)

    def test_each_small_vowel_is_one_and_short(self):
        for vowel in "aeiouy":
            self.assertEqual(syllables("t" + vowel + "ta"), [SHORT, LAST], vowel)

    def test_each_capital_vowel_is_one_and_long(self):
        for vowel in "AEIOUY":
            self.assertEqual(syllables("t" + vowel + "ta"), [LONG, LAST], vowel)

    def test_pairs_are_one_vowel_long(self):
        for first in "aeiouy":
            for second in "aeiouy":
                pair = first + second
                expected = [LONG, LAST] if pair in ("ae", "au", "oe", "eu") else [SHORT, SHORT, LAST]
                self.assertEqual(syllables("t" + pair + "ta"), expected, pair)

    def test_pairs_are_taken_from_the_left(self):
        self.assertEqual(syllables("taeuta"), [LONG, SHORT, LAST])
        self.assertEqual(syllables("toeuta"), [LONG, SHORT, LAST])
        self.assertEqual(syllables("taauta"), [SHORT, LONG, LAST])
        self.assertEqual(syllables("taeaeta"), [LONG, LONG, LAST])

    def test_a_pair_has_small_letters_next_to_each_other(self):
        self.assertEqual(syllables("tAeta"), [LONG, SHORT, LAST])
        self.assertEqual(syllables("taEta"), [SHORT, LONG, LAST])
        self.assertEqual(syllables("taheta"), [SHORT, SHORT, LAST])

    def test_a_pair_over_two_words_is_none(self):
        self.assertEqual(syllables("ta eta"), [SHORT, LAST])
        self.assertEqual(syllables("tas eta"), [SHORT + END, SHORT, LAST])
        self.assertEqual(syllables("ta h eta"), [SHORT + END, SHORT, LAST])

    def test_one_consonant_leaves_a_vowel_short(self):
        for consonant in "bcdfgjklmnpqrstvw":
            self.assertEqual(syllables("a" + consonant + "a"), [SHORT, LAST], consonant)

    def test_x_and_z_count_as_two(self):
        self.assertEqual(syllables("axa"), [LONG, LAST])
        self.assertEqual(syllables("aza"), [LONG, LAST])

    def test_an_x_at_a_words_end(self):
        self.assertEqual(syllables("tax a"), [LONG + END, LAST])
        self.assertEqual(syllables("taz a"), [LONG + END, LAST])

    def test_two_consonants(self):
        consonants = "bcdfgjklmnpqrstvwxz"
        for first in consonants:
            for second in consonants:
                expected = EITHER if first in "bcdfgpt" and second in "lr" else LONG
                self.assertEqual(syllables("a" + first + second + "a"), [expected, LAST], first + second)

    def test_three_consonants_make_long(self):
        self.assertEqual(syllables("astra"), [LONG, LAST])
        self.assertEqual(syllables("atrra"), [LONG, LAST])
        self.assertEqual(syllables("atrta"), [LONG, LAST])

    def test_consonants_of_whatever_words_count(self):
        self.assertEqual(syllables("at ta"), [LONG + END, LAST])
        self.assertEqual(syllables("a t ta"), [LONG + END, LAST])
        self.assertEqual(syllables("at t ata"), [LONG + END, SHORT, LAST])
        self.assertEqual(syllables("a t ata"), [SHORT + END, SHORT, LAST])

    def test_either_only_if_both_are_in_one_word(self):
        self.assertEqual(syllables("at ra"), [LONG + END, LAST])
        self.assertEqual(syllables("a t r ata"), [LONG + END, SHORT, LAST])
        self.assertEqual(syllables("atr ata"), [EITHER + END, SHORT, LAST])
        self.assertEqual(syllables("a tra"), [EITHER + END, LAST])
        self.assertEqual(syllables("a tr ata"), [EITHER + END, SHORT, LAST])
        self.assertEqual(syllables("as tra"), [LONG + END, LAST])
        self.assertEqual(syllables("atr t ata"), [LONG + END, SHORT, LAST])

    def test_a_long_vowel_stays_long_whatever_follows(self):
        self.assertEqual(syllables("Atra"), [LONG, LAST])
        self.assertEqual(syllables("aetra"), [LONG, LAST])
        self.assertEqual(syllables("Aa"), [LONG, LAST])

    def test_the_last_is_either_even_if_long(self):
        self.assertEqual(syllables("tA"), [LAST])
        self.assertEqual(syllables("tae"), [LAST])
        self.assertEqual(syllables("taxst"), [LAST])

    def test_a_line_of_one_syllable(self):
        self.assertEqual(speak("a"), [1, 6] + [0] * 63)
        self.assertEqual(syllables("trax"), [LAST])

    def test_h_counts_for_nothing(self):
        self.assertEqual(syllables("atha"), [SHORT, LAST])
        self.assertEqual(syllables("athra"), [EITHER, LAST])
        self.assertEqual(syllables("ahha"), [SHORT, LAST])

    def test_u_behind_q_counts_for_nothing(self):
        self.assertEqual(syllables("aqua"), [SHORT, LAST])
        self.assertEqual(syllables("quae"), [LAST])
        self.assertEqual(syllables("quua"), [SHORT, LAST])
        self.assertEqual(syllables("atqua"), [LONG, LAST])

    def test_only_a_small_u_straight_behind_q(self):
        self.assertEqual(syllables("aqUa"), [SHORT, LONG, LAST])
        self.assertEqual(syllables("aqhua"), [SHORT, SHORT, LAST])
        self.assertEqual(syllables("aq uta"), [SHORT + END, SHORT, LAST])

    def test_word_ends(self):
        self.assertEqual(syllables("ta pa ta"), [SHORT + END, SHORT + END, LAST])
        self.assertEqual(syllables("tapata ta"), [SHORT, SHORT, SHORT + END, LAST])
        self.assertEqual(syllables("ta st"), [LAST])


class PassedOverTest(unittest.TestCase):
    def test_a_vowel_at_the_end_ahead_of_a_vowel(self):
        self.assertEqual(syllables("multa ubi"), [LONG + END, SHORT, LAST])
        self.assertEqual(syllables("tata ata"), [SHORT + END, SHORT, LAST])

    def test_a_long_one_and_a_pair_too(self):
        self.assertEqual(syllables("tatA ata"), [SHORT + END, SHORT, LAST])
        self.assertEqual(syllables("tatae ata"), [SHORT + END, SHORT, LAST])

    def test_only_the_last_vowel(self):
        self.assertEqual(syllables("tia ata"), [SHORT + END, SHORT, LAST])

    def test_m_between_vowels_of_two_words(self):
        self.assertEqual(syllables("tatam ata"), [SHORT + END, SHORT, LAST])
        self.assertEqual(syllables("tatAm ata"), [SHORT + END, SHORT, LAST])
        self.assertEqual(syllables("tataem ata"), [SHORT + END, SHORT, LAST])

    def test_m_ahead_of_a_consonant_stays(self):
        self.assertEqual(syllables("tam ta"), [LONG + END, LAST])

    def test_only_one_m_alone(self):
        self.assertEqual(syllables("tamm ata"), [LONG + END, SHORT, LAST])
        self.assertEqual(syllables("tams ata"), [LONG + END, SHORT, LAST])
        self.assertEqual(syllables("tan ata"), [SHORT + END, SHORT, LAST])
        self.assertEqual(syllables("tasm ata"), [LONG + END, SHORT, LAST])

    def test_m_without_a_vowel_stays(self):
        self.assertEqual(syllables("a m ata"), [SHORT + END, SHORT, LAST])
        self.assertEqual(syllables("as m ata"), [LONG + END, SHORT, LAST])
        self.assertEqual(syllables("aqum ata"), [LONG + END, SHORT, LAST])

    def test_h_at_the_end_and_in_front(self):
        self.assertEqual(syllables("tata hata"), [SHORT + END, SHORT, LAST])
        self.assertEqual(syllables("tatah ata"), [SHORT + END, SHORT, LAST])
        self.assertEqual(syllables("tatahmh hata"), [SHORT + END, SHORT, LAST])
        self.assertEqual(syllables("ha"), [LAST])

    def test_q_at_the_end_and_in_front_is_a_consonant(self):
        self.assertEqual(syllables("taqu ata"), [SHORT + END, SHORT, LAST])
        self.assertEqual(syllables("ta quata"), [SHORT + END, SHORT, LAST])

    def test_a_word_of_nothing_begins_with_no_vowel(self):
        self.assertEqual(syllables("tata h ata"), [SHORT, SHORT + END, SHORT, LAST])

    def test_a_word_all_passed_over(self):
        self.assertEqual(syllables("tata a ata"), [SHORT + END, SHORT, LAST])
        self.assertEqual(syllables("em ata"), [SHORT, LAST])
        self.assertEqual(syllables("a e i o u"), [LAST])
        self.assertEqual(syllables("a am ae A hau u"), [LAST])

    def test_consonants_of_a_word_passed_over_are_left(self):
        self.assertEqual(syllables("at te ata"), [LONG + END, SHORT, LAST])
        self.assertEqual(syllables("a tre ata"), [EITHER + END, SHORT, LAST])
        self.assertEqual(syllables("at re ata"), [LONG + END, SHORT, LAST])
        self.assertEqual(syllables("a tam ata"), [SHORT + END, SHORT, LAST])

    def test_the_last_word_keeps_its_end(self):
        self.assertEqual(syllables("ta ta"), [SHORT + END, LAST])
        self.assertEqual(syllables("ta tam "), [SHORT + END, LAST])


class SpeakRefusalTest(unittest.TestCase):
    def test_lengths(self):
        self.assertEqual(speak(""), [-22])
        self.assertEqual(speak("a"), [1, 6] + [0] * 63)
        self.assertEqual(speak("a" + " " * 254), [1, 6] + [0] * 63)
        self.assertEqual(speak("a" + " " * 255), [-22])
        self.assertEqual(speak("s" * 254 + "a"), [1, 6] + [0] * 63)
        self.assertEqual(speak("s" * 255 + "a"), [-22])
        self.assertEqual(speak("a" * 300), [-22])

    def test_every_byte(self):
        allowed = numbers("abcdefghijklmnopqrstuvwxyzAEIOUY ")
        for byte in range(256):
            for line in ([97, byte], [byte, 97]):
                self.assertEqual(speak(line) == [-22], byte not in allowed, line)

    def test_how_many_syllables(self):
        self.assertEqual(speak("ta" * 64), [64] + [0] * 63 + [6])
        self.assertEqual(speak("ta" * 65), [-71])
        self.assertEqual(speak("i" * 64), [64] + [0] * 63 + [6])
        self.assertEqual(speak("i" * 255), [-71])
        self.assertEqual(speak("ta" * 64 + " a"), [64] + [0] * 62 + [4, 6])

    def test_no_syllables(self):
        for line in (" ", "   ", "t", "trs t", "h", "qu", "hqu h"):
            self.assertEqual(speak(line), [-71], line)

    def test_a_bad_byte_goes_before_the_syllables(self):
        self.assertEqual(speak("t-"), [-22])
        self.assertEqual(speak("ta" * 65 + "B"), [-22])


class SpeakHoldsTest(unittest.TestCase):
    def setUp(self):
        self.source = random.Random(20)

    def random_line(self, most):
        signs = self.source.choice(["aeiouAEqumhtlrxbs ", "aeumqhtrx  ", "ae mth", "aeiouyAEIOUYbcdfghjklmnpqrstvwxz    "])
        return "".join(self.source.choice(signs) for number in range(self.source.randint(1, most)))

    def test_against_the_oracle(self):
        for number in range(4000):
            line = self.random_line(30)
            expected = oracle.syllables(line)
            if expected:
                self.assertEqual(syllables(line), expected, line)
            else:
                self.assertEqual(speak(line), [-71], line)

    def test_long_lines_against_the_oracle(self):
        for number in range(200):
            line = self.random_line(255)
            expected = oracle.syllables(line)
            if 1 <= len(expected) <= 64:
                self.assertEqual(syllables(line), expected, line)
            else:
                self.assertEqual(speak(line), [-71], line)

    def test_blanks_change_nothing(self):
        for number in range(500):
            line = self.random_line(25)
            blanks = [" " * self.source.randint(1, 4) for blank in line]
            wider = "".join(blank if sign == " " else sign for sign, blank in zip(line, blanks))
            expected = speak(line)
            self.assertEqual(speak(wider), expected, line)
            self.assertEqual(speak("  " + line), expected, line)
            self.assertEqual(speak(line + "   "), expected, line)

    def test_a_capital_vowel_makes_nothing_short(self):
        # The letters of a pair are one vowel together, and a u behind q is
        # none: only what is a small vowel by itself is made capital here.
        tried = 0
        for number in range(3000):
            line = self.random_line(15)
            before = speak(line)
            at = self.source.randrange(len(line))
            in_pair = any(line[spot:spot + 2] in ("ae", "au", "oe", "eu") for spot in (at - 1, at) if spot >= 0)
            if line[at] in "aeiouy" and line[max(at - 1, 0)] != "q" and not in_pair and before[0] > 0:
                tried += 1
                after = speak(line[:at] + line[at].upper() + line[at + 1:])
                self.assertEqual(after[0], before[0], line)
                for old, new in zip(before[1:1 + before[0]], after[1:]):
                    self.assertEqual(old // 4, new // 4, line)
                    self.assertTrue(new % 4 == old % 4 or new % 4 == LONG, line)
        self.assertGreater(tried, 300)

    def test_a_capital_vowel_for_a_pair_changes_nothing(self):
        for line in ("taeta", "tautra taeta", "poena", "teuta", "tae ata", "taem ata"):
            for pair in ("ae", "au", "oe", "eu"):
                self.assertEqual(speak(line.replace(pair, "A")), speak(line), line)


if __name__ == "__main__":
    unittest.main()
