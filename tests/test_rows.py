"""Points 1 and 2: the order of rows, the corners, and that all rows that scan are got, each once."""

import random
import unittest
from unittest import mock

from asking import all_answers, ask
from making import some_measure, some_word
from plain import all_rows, line_scans, rows_that_scan

ONE_TO_THREE = "u,uu,uuu"
HEXAMETER = "--,-uu|--,-uu|--,-uu|--,-uu|-uu|-u,--;3.1,3.2"
ORDINARY = ("arma virumque canO trOjae quI prImus ab OrIs Italiam fAtO profugus multum ille et terrIs "
            "iactAtus saevae memorem iUnOnis ob Iram tantaene animIs caelestibus Irae").split()


class OrderTest(unittest.TestCase):
    def test_a_row_before_the_longer_ones_that_begin_with_it(self):
        rows = [[0], [0, 1], [0, 1, 2], [0, 2], [0, 2, 1], [1], [1, 0], [1, 0, 2], [1, 2], [1, 2, 0],
                [2], [2, 0], [2, 0, 1], [2, 1], [2, 1, 0]]
        self.assertEqual(all_answers(ONE_TO_THREE, ["ba", "be", "bi"], 3), rows)

    def test_after_a_row_that_scans(self):
        words = ["ba", "be", "bi"]
        self.assertEqual(ask("uu", words, 3, [0, 1]), [2, 0, 2])
        self.assertEqual(ask("uu", words, 3, [0, 2]), [2, 1, 0])
        self.assertEqual(ask("uu", words, 3, [2, 0]), [2, 2, 1])

    def test_after_a_row_that_does_not_scan(self):
        words = ["ba", "be", "bi"]
        self.assertEqual(ask("uu", words, 3, [0]), [2, 0, 1])
        self.assertEqual(ask("uu", words, 3, [0, 1, 2]), [2, 0, 2])
        self.assertEqual(ask("uu", words, 3, [0, 2, 1]), [2, 1, 0])
        self.assertEqual(ask("uuu", words, 3, [0, 2]), [3, 0, 2, 1])

    def test_0_behind_the_last_one(self):
        words = ["ba", "be", "bi"]
        self.assertEqual(ask("uu", words, 3, [2, 1]), [0])
        self.assertEqual(ask("uu", words, 3, [2, 1, 0]), [0])
        self.assertEqual(ask(ONE_TO_THREE, words, 3, [2, 1, 0]), [0])
        self.assertEqual(ask("u", words, 3, [2]), [0])

    def test_by_number_and_not_by_letters(self):
        self.assertEqual(all_answers("u,uu", ["vi", "ba"], 2), [[0], [0, 1], [1], [1, 0]])


class CornersTest(unittest.TestCase):
    def test_a_word_without_a_vowel(self):
        self.assertEqual(all_answers("-", ["b", "ba"], 2), [[0, 1], [1], [1, 0]])
        self.assertEqual(all_answers("-u", ["b", "ba", "bi"], 3), [[1, 0, 2], [2, 0, 1]])
        self.assertEqual(all_answers("-", ["b", "h", "qu"], 3), [])

    def test_words_that_pass_over_one_another(self):
        self.assertEqual(all_answers("-", ["a", "am", "i"], 3), all_rows(3, 3))
        self.assertEqual(all_answers("u-", ["aba", "um", "e"], 3), [
            [0], [0, 1], [0, 1, 2], [0, 2], [0, 2, 1], [1, 0], [1, 0, 2], [1, 2, 0], [2, 0], [2, 0, 1], [2, 1, 0]])

    def test_a_row_that_begins_with_one_that_scans(self):
        self.assertEqual(all_answers("-", ["ba", "b", "c"], 3), [
            [0], [0, 1], [0, 1, 2], [0, 2], [0, 2, 1], [1, 0], [1, 0, 2], [1, 2, 0], [2, 0], [2, 0, 1], [2, 1, 0]])
        self.assertEqual(ask("u,uu", ["ba", "be"], 2, [0]), [2, 0, 1])

    def test_a_stock_of_one_word(self):
        for most in (1, 12):
            self.assertEqual(ask("-", ["ba"], most), [1, 0])
            self.assertEqual(ask("-", ["ba"], most, [0]), [0])
            self.assertEqual(ask("--", ["ba"], most), [0])

    def test_the_last_row_of_all(self):
        words = ["ba"] * 13
        last = [12, 11, 10, 9, 8, 7, 6, 5, 4, 3, 2, 1]
        ahead = [12, 11, 10, 9, 8, 7, 6, 5, 4, 3, 2, 0]
        measure = "|".join(["u"] * 12)
        self.assertEqual(ask(measure, words, 12, ahead), [12] + last)
        self.assertEqual(ask(measure, words, 12, last), [0])
        self.assertEqual(ask("u", words, 12, last), [0])

    def test_words_that_are_the_same(self):
        self.assertEqual(all_answers("uu", ["ba", "ba", "ba"], 2), [[0, 1], [0, 2], [1, 0], [1, 2], [2, 0], [2, 1]])
        self.assertEqual(all_answers("uu", ["ba", "b", "ba"], 2), [[0, 2], [2, 0]])

    def test_not_more_words_than_most(self):
        self.assertEqual(all_answers(ONE_TO_THREE, ["ba", "be", "bi"], 1), [[0], [1], [2]])
        self.assertEqual(ask("uuu", ["ba", "be", "bi"], 2), [0])


class WhatHoldsTest(unittest.TestCase):
    def test_all_rows_of_small_stocks(self):
        source = random.Random(1)
        count = 0
        for trial in range(1500):
            words = [some_word(source) for index in range(source.randint(1, 5))]
            measure = some_measure(source)
            most = source.randint(1, 5)
            wanted = rows_that_scan(most, measure, words)
            count += len(wanted)
            with self.subTest(measure=measure, words=words, most=most):
                self.assertEqual(all_answers(measure, words, most), wanted)
        self.assertGreater(count, 3000)

    def test_behind_any_row(self):
        source = random.Random(2)
        for trial in range(300):
            words = [some_word(source) for index in range(source.randint(1, 4))]
            measure = some_measure(source)
            most = source.randint(1, 4)
            wanted = rows_that_scan(most, measure, words)
            for after in all_rows(len(words), most):
                behind = [row for row in wanted if row > after]
                with self.subTest(measure=measure, words=words, most=most, after=after):
                    self.assertEqual(ask(measure, words, most, after), [len(behind[0])] + behind[0] if behind else [0])

    def test_all_rows_of_ordinary_words(self):
        for measure in ("-uu|-u", "-uu,--|-uu,--;1.2,2.1", "-u|-u|-u;2.1"):
            for words in (ORDINARY[:7], ORDINARY[8:15], ORDINARY[17:24]):
                with self.subTest(measure=measure, words=words):
                    self.assertEqual(all_answers(measure, words, 4), rows_that_scan(4, measure, words))

    def test_a_longer_stock_loses_none(self):
        for measure in ("-uu,--|-u,--", "-u|-,u;1.1"):
            for count in range(1, 7):
                shorter = all_answers(measure, ORDINARY[:count], 3)
                longer = all_answers(measure, ORDINARY[:count + 1], 3)
                self.assertEqual([row for row in longer if count not in row], shorter)

    def test_more_words_in_a_line_lose_none(self):
        words = ["arma", "ab", "ille", "et", "m"]
        for measure in ("-uu,--|-u,--", "-u,-|-,u;1.1"):
            for most in range(1, 5):
                fewer = all_answers(measure, words, most)
                more = all_answers(measure, words, most + 1)
                self.assertEqual([row for row in more if len(row) <= most], fewer)

    def test_the_limit_of_bytes_loses_none(self):
        words = ["h" * 21 + "ba"] * 11 + ["ba"]
        measure = "|".join(["u"] * 11)
        begin = [0, 1, 2, 3, 4, 5, 6, 7, 8]
        self.assertEqual(ask(measure, words, 11), [11] + begin + [9, 11])
        self.assertEqual(ask(measure, words, 11, begin + [9, 11]), [11] + begin + [10, 11])
        self.assertEqual(ask(measure, words, 11, begin + [10, 11]), [11] + begin + [11, 9])
        self.assertEqual(ask(measure, words[:11], 11), [0])

    def test_all_rows_of_small_stocks_where_lines_are_narrow(self):
        # Lines of 255 bytes need 11 words and more, too many for a plain search; so the limit is set lower here.
        source = random.Random(3)
        for trial in range(1500):
            words = [some_word(source) for index in range(source.randint(2, 5))]
            measure = some_measure(source)
            limit = source.randint(3, 15)
            wanted = [row for row in rows_that_scan(5, measure, words)
                      if len(" ".join(words[number] for number in row)) <= limit]
            with self.subTest(measure=measure, words=words, limit=limit):
                with mock.patch("versestock.rows.LINE_ROOM", limit + 1):
                    self.assertEqual(all_answers(measure, words, 5), wanted)


class LargeTest(unittest.TestCase):
    def test_64_words_that_are_the_same(self):
        measure = "|".join(["u"] * 12)
        self.assertEqual(ask(measure, ["ba"] * 64, 12), [12] + list(range(12)))
        self.assertEqual(ask(measure, ["ba"] * 64, 12, range(12)), [12] + list(range(11)) + [12])
        self.assertEqual(ask(measure, ["ba"] * 64, 12, range(63, 51, -1)), [0])
        self.assertEqual(ask(measure + "|u", ["ba"] * 64, 12), [0])

    def test_64_words_none_of_which_scans(self):
        self.assertEqual(ask("-", ["b"] * 64, 12), [0])
        self.assertEqual(ask("-|-", ["a"] * 64, 12), [0])
        self.assertEqual(ask("uu|uu", ["bans"] * 64, 12), [0])

    def test_64_words_one_of_which_would_have_to_stand_twice(self):
        words = ["bl" * (index % 3) + "b" * (index % 7 + 1) for index in range(63)]
        self.assertEqual(ask("-|-", words + ["ba"], 12), [0])
        self.assertEqual(ask("-", words + ["ba"], 12), [12] + list(range(11)) + [63])

    def test_11_unlike_words_for_12_places(self):
        words = [head + "i" + tail for head in ("b", "bl", "bb") for tail in ("b", "bl", "bb", "n")]
        others = ["b" * (index % 3 + 1) + "l" * (index % 5) for index in range(52)]
        measure = "|".join(["-,u"] * 12)
        self.assertEqual(ask(measure, words[:11] + others, 12), [0])
        self.assertEqual(ask(measure, words + others, 12), [12] + list(range(12)))

    def test_64_words_whose_lines_are_just_too_long(self):
        tails = ("b", "bl", "bb", "", "m", "n")
        words = []
        for index in range(64):
            end = ("", "b", "bl", "bb")[index % 4] + "aA"[index % 2] + tails[index % 6]
            words.append("h" * ((20 if index < 7 else 21) - len(end)) + end)
        self.assertEqual(ask("|".join(["-,u"] * 12), words, 12), [0])

    def test_rows_of_64_ordinary_words(self):
        words = ORDINARY + [word + "que" for word in ORDINARY] + [word + "ve" for word in ORDINARY]
        words = [word for word in words if len(word) <= 23][:64]
        self.assertEqual(len(words), 64)
        after = []
        for trial in range(30):
            answer = ask(HEXAMETER, words, 12, after)
            self.assertGreater(answer[0], 0)
            self.assertGreater(answer[1:], after)
            self.assertTrue(line_scans(HEXAMETER, " ".join(words[n] for n in answer[1:])))
            after = answer[1:]

    def test_none_is_missed_between_two_answers(self):
        words = ORDINARY[:12]
        after = []
        for trial in range(40):
            answer = ask("-uu,--|-uu,--|-u,--", words, 3, after)
            between = [row for row in all_rows(12, 3) if after < row < answer[1:]]
            missed = [row for row in between if line_scans("-uu,--|-uu,--|-u,--", " ".join(words[n] for n in row))]
            self.assertEqual(missed, [])
            after = answer[1:]


if __name__ == "__main__":
    unittest.main()
