"""Lines: what counts, what is passed over, how long syllables are, and where words end."""

import unittest

from asking import count_of, quantities, scans, word_ends


class LinesTest(unittest.TestCase):
    def check(self, wanted, asked=quantities):
        for line, told in wanted.items():
            with self.subTest(line=line):
                self.assertEqual(asked(line), told)


class QuantitiesTest(LinesTest):
    def test_every_vowel(self):
        for vowel in "aeiouy":
            self.check({f"b{vowel}ba": "ux"})
        for vowel in "AEIOUY":
            self.check({f"b{vowel}ba": "-x", f"{vowel}": "x", f"a{vowel}ba": "u-x", f"{vowel}aba": "-ux"})

    def test_u_behind_q(self):
        self.check({"quba": "x", "aquaba": "uux", "quuba": "ux", "qua": "x", "aqu": "x", "qu": "", "quaeba": "-x"})
        self.check({"quiba": "ux", "qaba": "ux", "qauba": "-x", "aquta": "-x", "aqula": "-x"})

    def test_u_not_right_behind_q(self):
        self.check({"qhuba": "ux", "baq uba": "uux", "qUba": "-x", "uqba": "-x"})

    def test_h_counts_for_nothing(self):
        self.check({"aha": "ux", "atha": "ux", "ahta": "ux", "ahthta": "-x", "hahbah": "ux", "h": "", "hh ba": "x"})
        self.check({"aphra": "xx", "abhhla": "xx", "hablha": "xx"})

    def test_pairs_of_vowels(self):
        self.check({f"b{pair}ba": "-x" for pair in ("ae", "au", "oe", "eu")})
        others = [a + b for a in "aeiouy" for b in "aeiouy" if a + b not in ("ae", "au", "oe", "eu")]
        self.check({f"b{pair}ba": "uux" for pair in others})

    def test_pairs_from_the_left_on(self):
        self.check({"aeuba": "-ux", "oeuba": "-ux", "eauba": "u-x", "aauba": "u-x", "aeaeba": "--x", "aueuba": "--x"})
        self.check({"aeeuba": "--x", "eueba": "-ux", "aeueba": "-uux", "oaeuba": "u-ux"})

    def test_no_pair_of_what_is_not_next_to_each_other(self):
        self.check({"aheba": "uux", "bas eba": "uux", "aqueba": "uux", "ba uba": "ux"})

    def test_no_pair_with_a_capital(self):
        self.check({"aEba": "u-x", "Aeba": "-ux", "AEba": "--x", "eUba": "u-x", "Oeba": "-ux"})

    def test_one_consonant(self):
        for sign in "bcdfgjklmnpqrstvw":
            self.check({f"a{sign}a": "ux", f"a{sign}{sign}a": "-x", f"a {sign}a": "ux"})

    def test_x_and_z_count_as_two(self):
        for sign in "xz":
            self.check({f"a{sign}a": "-x", f"a{sign} a": "-x", f"a {sign}a": "-x", f"a{sign}la": "-x"})
            self.check({f"{sign}a": "x", f"{sign}aba": "ux", f"ab{sign}a": "-x", f"at{sign}a": "-x"})

    def test_pairs_of_consonants_that_make_either(self):
        for first in "abcdefghijklmnopqrstuvwxyz":
            for second in "abcdefghijklmnopqrstuvwxyz":
                if first in "aeiouyh" or second in "aeiouyh":
                    continue
                either = first in "bcdfgpt" and second in "lr"
                self.check({f"a{first}{second}a": "xx" if either else "-x"})

    def test_such_a_pair_with_one_more(self):
        self.check({"ablra": "-x", "abbla": "-x", "asbla": "-x", "abl ba": "-x", "ab bla": "-x", "ablx a": "-x"})

    def test_such_a_pair_in_one_word(self):
        self.check({"a bla": "xx", "abl a": "xx", "a bl a": "xx", "a h bl h a": "xx", "abr iba": "xux"})

    def test_such_a_pair_over_two_words(self):
        self.check({"ab la": "-x", "a b la": "-x", "ab l a": "-x", "a b l a": "-x", "ath ra": "-x"})

    def test_such_a_pair_behind_a_long_vowel(self):
        self.check({"Abla": "-x", "aebla": "-x", "A bla": "-x", "aubl a": "-x"})

    def test_consonants_of_two_words(self):
        self.check({"as ta": "-x", "as a": "ux", "a sta": "-x", "ast a": "-x", "a s ta": "-x", "a s a": "ux"})

    def test_consonants_ahead_of_the_first_vowel(self):
        self.check({"straba": "ux", "s tr aba": "ux", "xxaba": "ux", "xx zz a": "x"})

    def test_the_last_syllable_is_either(self):
        self.check({"a": "x", "A": "x", "bax": "x", "aest": "x", "ba b": "x", "aba xx zz": "ux", "baA": "ux"})

    def test_no_syllable(self):
        self.check({"b": "", "h": "", "qu": "", "b c d": "", "h h": "", "qu qu": ""})


class PassedOverTest(LinesTest):
    def test_at_the_end(self):
        self.check({"ba aba": "ux", "bA aba": "ux", "bae aba": "ux", "bya aba": "uux", "ba Aba": "-x", "ba aeba": "-x"})
        for vowel in "aeiouyAEIOUY":
            self.check({f"ab{vowel} aba": "uux", f"aba {vowel}": "ux", f"aba {vowel}s b": "ux"})

    def test_before_one_m(self):
        self.check({"bam aba": "ux", "bAm aba": "ux", "baem aba": "ux", "abum aba": "uux"})

    def test_not_before_anything_else(self):
        self.check({"bamm aba": "-ux", "bas aba": "uux", "bans aba": "-ux", "balm aba": "-ux", "baml aba": "-ux"})
        self.check({"bax aba": "-ux", "baq aba": "uux", "baqu aba": "uux", "bamqu aba": "-ux", "bahmhm aba": "-ux"})

    def test_without_what_counts_for_nothing(self):
        self.check({"bah aba": "ux", "bahm aba": "ux", "bamh aba": "ux", "bahhmhh hhaba": "ux", "ba haba": "ux"})
        self.check({"baeh haeba": "-x", "bam hAba": "-x"})

    def test_only_if_the_next_word_begins_with_a_vowel(self):
        self.check({"ba ba": "ux", "bam ba": "-x", "ba quaba": "uux", "bam b aba": "-ux", "ba b aba": "uux"})
        self.check({"ba h aba": "uux", "bam h aba": "uux", "ba qu aba": "uux", "ba": "x", "bam": "x", "aba bam": "uux"})

    def test_consonants_that_are_left(self):
        self.check({"alta aba": "-ux", "ata aba": "uux", "abla aba": "xux", "ablum aba": "xux", "as ta aba": "-ux"})
        self.check({"ab la aba": "-ux", "a bla aba": "xux", "axa aba": "-ux", "atam aba": "uux", "abl i aba": "xux"})

    def test_one_after_another(self):
        self.check({"a a": "x", "a a a": "x", "am em im u": "x", "ba ta ra A": "uux", "a a ba": "ux"})
        self.check({"a e i oba": "ux", "abla a ba": "xux", "abla a i": "xx", "abla am i": "xx", "aba a a s": "ux"})


class WordEndsTest(LinesTest):
    def test_ordinary_words(self):
        self.check({"ba": [1], "baba": [2], "ba baba ba": [1, 3, 4], "bababa": [3], "arba carba": [2, 4]}, word_ends)

    def test_where_a_vowel_is_passed_over(self):
        self.check({"multa agis": [1, 3], "multum agis": [1, 3], "ba aba": [2], "a a a": [1]}, word_ends)
        self.check({"arba i aba": [1, 3]}, word_ends)

    def test_where_a_word_has_no_vowel(self):
        self.check({"ba b ba": [1, 2], "ba b": [1], "b baba": [2], "baba b h qu ba": [2, 3]}, word_ends)


class LimitsTest(unittest.TestCase):
    def test_one_syllable(self):
        self.assertTrue(scans("u", "b b ba b"))
        self.assertFalse(scans("u", "b b b"))

    def test_64_syllables(self):
        measure = "|".join(["uuuu"] * 16)
        words = ["ba" * 11] * 5
        self.assertTrue(scans(measure, " ".join(words + ["ba" * 9])))
        self.assertFalse(scans(measure, " ".join(words + ["ba" * 8])))
        self.assertFalse(scans(measure, " ".join(words + ["ba" * 10])))

    def test_255_bytes(self):
        for most, letters in ((11, 245), (12, 244)):
            measure = "|".join(["-,u"] * most)
            for total, wanted in ((letters - 1, True), (letters, True), (letters + 1, False), (most * 23, False)):
                line = " ".join("h" * (total * (index + 1) // most - total * index // most - 2) + "ba"
                                for index in range(most))
                self.assertEqual(len(line), total + most - 1)
                with self.subTest(most=most, total=total):
                    self.assertEqual(scans(measure, line), wanted)

    def test_255_bytes_with_words_without_a_vowel(self):
        self.assertTrue(scans("-", " ".join(["b" * 23] * 10 + ["b" * 14 + "a"])))
        self.assertFalse(scans("-", " ".join(["b" * 23] * 10 + ["b" * 15 + "a"])))

    def test_as_many_as_the_measure_has(self):
        self.assertEqual([count_of(" ".join(["ba"] * count)) for count in range(1, 13)], list(range(1, 13)))


if __name__ == "__main__":
    unittest.main()
