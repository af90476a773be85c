"""Point 1: the refusals, at both ends of each range, and which of several is answered."""

import unittest

from versestock.desk import next_row

from asking import ask
from plain import codes

LETTERS = "abcdefghijklmnopqrstuvwxyzAEIOUY"


class MeasureTest(unittest.TestCase):
    def check_good(self, *texts):
        for text in texts:
            with self.subTest(text=text):
                self.assertIn(ask(text, ["ba"], 1), ([0], [1, 0]))

    def check_bad(self, *texts):
        for text in texts:
            with self.subTest(text=text):
                self.assertEqual(ask(text, ["ba"], 1), [-22])

    def test_how_many_bytes(self):
        feet = "|".join(["----,----,----"] * 15) + "|-"
        of_255 = f"{feet};10.1,10.1,10.1,10.1,10.1,1.1"
        of_256 = f"{feet};10.1,10.1,10.1,10.1,10.1,10.1"
        self.assertEqual((len(of_255), len(of_256)), (255, 256))
        self.check_good("-", "u", of_255)
        self.check_bad("", of_256, "-" * 1000)

    def test_how_many_feet(self):
        self.check_good("-|u", "|".join("-" * 16))
        self.check_bad("|".join("-" * 17), "|", "-|", "|-", "-||-")

    def test_how_many_ways(self):
        self.check_good("-,u", "-,-", "-,u,-,u", "-|-,u,--,uu|-")
        self.check_bad("-,u,-,u,-", "-|-,u,-,u,-", ",", "-,", ",-", "-,,u", "-|,u")

    def test_how_long_a_way(self):
        self.check_good("-u-u", "-,uuuu|----")
        self.check_bad("-u-u-", "-,uuuuu", "-|-----")

    def test_other_signs(self):
        self.check_bad("x", "-U", "- ", " -", "-|1", "-.u", "1", "1.1", "-\n", "_", "--;1.1 ")
        for code in (0, 1, 44, 46, 48, 59, 85, 118, 124, 127, 128, 255):
            with self.subTest(code=code):
                self.assertEqual(next_row(1, [code], [], [codes("ba")]), [-22])
                self.assertEqual(next_row(1, [45, code], [], [codes("ba")]), [-22])

    def test_how_many_cuts(self):
        self.check_good("-;1.1", "-;" + ",".join(["1.1"] * 8), "-;1.1,1.2")
        self.check_bad("-;" + ",".join(["1.1"] * 9), "-;", "-;,", "-;1.1,", "-;,1.1", "-;1.1,,1.1", ";1.1", ";")

    def test_one_list_of_cuts_at_the_end(self):
        self.check_bad("-;1.1;1.1", "-;1.1|-", "1.1;-", "-;1.1;", "-,1.1", "-|1.1")

    def test_the_foot_of_a_cut(self):
        sixteen = "|".join("-" * 16)
        self.check_good("-|-;2.1", f"{sixteen};16.1", f"{sixteen};10.1", f"{sixteen};9.1,1.1")
        self.check_bad("-;0.1", "-;2.1", "-|-;3.1", f"{sixteen};17.1", f"{sixteen};20.1", f"{sixteen};100.1")
        self.check_bad("|".join("-" * 15) + ";16.1", f"{sixteen};1.1,17.1")

    def test_the_place_of_a_cut(self):
        self.check_good("-;1.1", "-;1.2", "-;1.4", "----;1.4")
        self.check_bad("-;1.0", "-;1.5", "----;1.5", "-;1.10", "-;1.14", "-;1.1,1.5")

    def test_no_0_in_front(self):
        self.check_bad("-;01.1", "-;1.01", "-;00.1", "-;1.00", "-|-;02.1", "|".join("-" * 16) + ";016.1")

    def test_how_a_cut_is_written(self):
        self.check_bad("-;1", "-;.", "-;1.", "-;.1", "-;1..1", "-;1.1.1", "-;11", "-;-.1", "-;1.-", "-;u", "-;1,1")


class StockTest(unittest.TestCase):
    def check_word(self, bytes_of_word, is_good):
        with self.subTest(word=bytes_of_word):
            for stock in ([bytes_of_word], [codes("ba"), bytes_of_word], [bytes_of_word, codes("ba")]):
                self.assertEqual(next_row(1, codes("-"), [], stock) != [-23], is_good)

    def test_how_many_words(self):
        self.assertEqual(ask("-", [], 1), [-23])
        self.assertEqual(ask("-", ["ba"], 1), [1, 0])
        self.assertEqual(ask("-", ["ba"] * 64, 1), [1, 0])
        self.assertEqual(ask("-", ["ba"] * 65, 1), [-23])
        self.assertEqual(ask("-", ["ba"] * 100, 1), [-23])

    def test_most(self):
        for most in (1, 2, 11, 12):
            self.assertEqual(ask("-", ["ba"], most), [1, 0])
        for most in (0, 13, 64, 256, 257, 4294967295):
            self.assertEqual(ask("-", ["ba"], most), [-23])

    def test_how_many_letters(self):
        self.check_word([], False)
        self.check_word(codes("a"), True)
        self.check_word(codes("b" * 22 + "a"), True)
        self.check_word(codes("b" * 23 + "a"), False)
        self.check_word(codes("a" * 100), False)

    def test_every_byte(self):
        for code in range(1, 256):
            self.check_word([code], code in codes(LETTERS))
            self.check_word(codes("ba") + [code], code in codes(LETTERS))
            self.check_word([code] + codes("ba"), code in codes(LETTERS))

    def test_the_last_word_of_64(self):
        self.assertEqual(ask("-", ["ba"] * 63 + ["bB"], 1), [-23])
        self.assertEqual(ask("-", ["ba"] * 63 + [""], 1), [-23])


class AfterTest(unittest.TestCase):
    def test_how_many_numbers(self):
        words = ["ba"] * 13
        self.assertEqual(ask("-", words, 1, [0, 1]), [-24])
        self.assertEqual(ask("-", words, 2, [0, 1]), [1, 1])
        self.assertEqual(ask("-", words, 2, [0, 1, 2]), [-24])
        self.assertEqual(ask("-", words, 12, range(12)), [1, 1])
        self.assertEqual(ask("-", words, 12, range(13)), [-24])
        self.assertEqual(ask("-", words, 12, [0] * 300), [-24])
        self.assertEqual(ask("-", words, 1, []), [1, 0])

    def test_numbers_of_words(self):
        words = ["ba", "ba", "ba"]
        self.assertEqual(ask("-", words, 3, [0]), [1, 1])
        self.assertEqual(ask("-", words, 3, [2]), [0])
        for wrong in ([3], [255], [0, 3], [3, 0], [0, 1, 3]):
            self.assertEqual(ask("-", words, 3, wrong), [-24])
        self.assertEqual(ask("-", ["ba"] * 64, 3, [62, 63]), [1, 63])
        self.assertEqual(ask("-", ["ba"] * 64, 3, [64]), [-24])

    def test_no_two_the_same(self):
        words = ["ba", "be", "bi"]
        for wrong in ([0, 0], [1, 1], [0, 1, 0], [0, 2, 2]):
            self.assertEqual(ask("-", words, 3, wrong), [-24])
        self.assertEqual(ask("-", words, 3, [0, 2, 1]), [1, 1])

    def test_a_row_that_can_never_scan_is_a_row(self):
        self.assertEqual(ask("-", ["b", "ba"], 2, [0]), [2, 0, 1])
        self.assertEqual(ask("-", ["b" * 23] * 12 + ["ba"], 12, range(12)), [11, 0, 1, 2, 3, 4, 5, 6, 7, 8, 9, 12])


class WhichRefusalTest(unittest.TestCase):
    def test_the_measure_is_first(self):
        for words, most, after in ((["B"], 1, []), ([], 1, []), (["ba"], 0, []), (["ba"], 1, [1]), (["B"], 13, [0, 0])):
            self.assertEqual(ask("x", words, most, after), [-22])
            self.assertEqual(ask("", words, most, after), [-22])

    def test_the_stock_is_next(self):
        for words, most in ((["B"], 1), ([], 1), (["ba"], 0), (["ba"], 13), (["ba"] * 65, 1), ([""], 1)):
            for after in ([7, 7], [255], [0] * 14, [0] * 300):
                self.assertEqual(ask("-", words, most, after), [-23])

    def test_a_refusal_goes_before_no_row(self):
        self.assertEqual(ask("-", ["b"], 1, [1]), [-24])
        self.assertEqual(ask("-", ["b", "B"], 1), [-23])
        self.assertEqual(ask("-;", ["b"], 1), [-22])


if __name__ == "__main__":
    unittest.main()
