"""Point 1: there's an answer also where the words fall just short.

Wherever none scans here, the like of it, with one thing more, has a row that does.
"""

import signal
import unittest

from asking import ask
from plain import line_scans_by_steps

# The document sets no time for an answer; this is only so that the tests end.
SECONDS = 60

FREE_FOOT = "u,uu,uuu,uuuu"
LONG_FOOT = "-,-u,-uu"
# These begin with a vowel and end with one consonant at most, so no syllable is long but by a capital.
SHORT_WORDS = "ia isa ias iaot itoa iatos iasoy itotis iatosya isotyis isiaotoy iasotaos isotiayti iaoysotyas".split()
LONG_WORDS = "Abis iAb Asotias isAsot iasAt Ayis iAtisa osAtis".split()
# None of these begins with a syllable that may be long, and none has such a one last but one.
MIXED_WORDS = ("iaoy isa iao isato iaoyisam iabloyi ias iaoytia isaoytia iasoys biaosyi iaoyti bisatoysita isabloysi"
               " itaoys iaobl iatobl iaotyisam bisaoytibl bisato biaso bitaotysia isasotysiam biaosysi iaoym biabloyia"
               " iatoyisas iato itaos bisao iaoyis iaoty").split()
# These begin with a consonant, so none is passed over: a line has as many syllables as its words.
PLAIN_WORDS = {1: "ba tins bla".split(), 2: "tablis sanA bibra".split(), 3: "tatibO blatanti simila bablisint".split(),
               4: "tabitAni blitatabi".split()}


def late(number, frame):
    raise AssertionError(f"no answer in {SECONDS} seconds")


def padded(word, count):
    """The word with so many letters: what counts for nothing is put behind its first one."""
    return word[0] + "h" * (count - len(word)) + word[1:]


class HardTest(unittest.TestCase):
    def answer(self, measure, words):
        before = signal.signal(signal.SIGALRM, late)
        signal.alarm(SECONDS)
        try:
            return ask(measure, words, 12)
        finally:
            signal.alarm(0)
            signal.signal(signal.SIGALRM, before)

    def check_none(self, measure, words):
        self.assertEqual(self.answer(measure, words), [0])

    def check_some(self, measure, words):
        answer = self.answer(measure, words)
        self.assertGreater(answer[0], 0)
        self.assertTrue(line_scans_by_steps(measure, " ".join(words[number] for number in answer[1:])))


class TooFewLongWordsTest(HardTest):
    """As many feet need a long syllable as there are words with one, and then one more."""

    def measure(self, count):
        return "|".join([FREE_FOOT] + [f"{LONG_FOOT}|{FREE_FOOT}"] * count)

    def test_all_unlike(self):
        for count in range(1, 7):
            with self.subTest(count=count):
                words = SHORT_WORDS[:7] + LONG_WORDS[:count] + SHORT_WORDS[7:]
                self.check_some(self.measure(count), words)
                self.check_none(self.measure(count + 1), words)

    def test_many_alike(self):
        for count in range(1, 7):
            with self.subTest(count=count):
                words = (SHORT_WORDS * 4)[:50] + LONG_WORDS[:1] * count
                self.check_some(self.measure(count), words)
                self.check_none(self.measure(count + 1), words)

    def test_with_cuts(self):
        for count in range(1, 5):
            with self.subTest(count=count):
                words = LONG_WORDS[:count] + SHORT_WORDS
                self.check_some(f"{self.measure(count)};2.1,3.2", words)
                self.check_none(f"{self.measure(count + 1)};2.1,3.2", words)

class OneWordForBothEndsTest(HardTest):
    """The first foot and the last one take the same word alone, which there is once."""

    def check(self, foot, words):
        self.assertNotIn("Aba", words)
        for cuts in ("", ";2.1,14.2,6.1"):
            with self.subTest(foot=foot, cuts=cuts):
                measure = "|".join(["-u"] + [foot] * 12 + ["-u"]) + cuts
                self.check_none(measure, words[:7] + ["Aba"] + words[7:])
                self.check_some(measure, ["Aba"] + words + ["Aba"])

    def test_19_words(self):
        self.check("uuu,uuuu,uu,u-uu", MIXED_WORDS[:18])

    def test_33_words(self):
        self.check(FREE_FOOT, MIXED_WORDS)
        self.check("uuu,uuuu,uu,u-uu", MIXED_WORDS)


class TooFewSyllablesTest(HardTest):
    """A line must have all twelve words, and still has one syllable too few."""

    def words(self, counts):
        return [PLAIN_WORDS[count][index] for count, upto in counts.items() for index in range(upto)]

    def test_twelve_unlike_words(self):
        measure = "|".join(["uu,u-,-u,--"] * 15)
        fewer = self.words({1: 3, 2: 3, 3: 4, 4: 2})
        self.assertEqual(len(fewer), 12)
        self.check_none(measure, fewer)
        self.check_some(measure, fewer[:2] + ["blata"] + fewer[3:])

    def test_eleven_unlike_words_and_many_that_are_too_short(self):
        measure = "|".join(["uu-,u--,-u-,---"] * 12)
        heads = ("b", "bl", "st")
        long_ones = [head + vowel + "tita" + tail for head in heads for vowel in "iA" for tail in ("s", "nt")]
        short_ones = [head + "ita" + tail for head in ("", *heads) for tail in ("s", "nt", "")]
        self.check_none(measure, short_ones + long_ones[:11])
        self.check_some(measure, short_ones + long_ones)


class LinesTooLongTest(HardTest):
    """A line must have twelve words, and has one byte too many even with the shortest ones."""

    MEASURE = "|".join(["--,-u,u-,uu"] * 12)
    ENDS = "sita blAnis bintO blablabl stanta sAtA".split()

    def words(self, letters):
        return [padded(self.ENDS[index % 6], count) for index, count in enumerate(letters)]

    def check(self, letters):
        self.assertEqual(sum(sorted(letters)[:12]) + 11, 256)
        self.check_none(self.MEASURE, self.words(letters))
        shortest = letters.index(min(letters))
        self.check_some(self.MEASURE, self.words(letters[:shortest] + [min(letters) - 1] + letters[shortest + 1:]))

    def test_twelve_words(self):
        self.check([17, 22, 19, 23, 19, 20, 21, 18, 22, 19, 22, 23])

    def test_24_words(self):
        self.check([22, 18, 21, 23, 20, 21, 22, 19, 21, 20, 23, 21, 22, 21, 20, 21, 23, 22, 22, 23, 22, 22, 23, 22])

    def test_64_words(self):
        self.check([21, 20, 22, 21, 23] * 7 + [22, 21, 23] * 9 + [22, 23])


if __name__ == "__main__":
    unittest.main()
