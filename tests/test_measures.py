"""Ways to scan: feet, ways and cuts."""

import unittest

from asking import scans

# Long, short, long, either; words end with the second syllable and the fourth.
TWO_WORDS = "arba carba"
# Long, short, either; words end with the second syllable and the third, or with the first and the third.
END_AT_2 = "arba car"
END_AT_1 = "ar bacar"


class WaysTest(unittest.TestCase):
    def test_long_and_short(self):
        for measure in ("-u-u", "-u--", "-|u|-|u", "-u|-u", "--,-u|-u,uu"):
            self.assertTrue(scans(measure, TWO_WORDS))
        for measure in ("uu-u", "---u", "-uuu", "-u|uu", "--,u-|-u"):
            self.assertFalse(scans(measure, TWO_WORDS))

    def test_as_many_as_the_syllables(self):
        for measure in ("-u-", "-u|-", "-", "-u-u|u", "-u|-u|-,u", "-u|-uu,-u-"):
            self.assertFalse(scans(measure, TWO_WORDS))

    def test_one_way_for_each_foot(self):
        self.assertTrue(scans("-,-u,-u-|u,-u,u-u", TWO_WORDS))
        self.assertTrue(scans("u,uu,uuu,-|u-u", TWO_WORDS))
        self.assertTrue(scans("u,uu,uuu,-u-u", TWO_WORDS))
        self.assertFalse(scans("-,-u|u-,-,-u-", TWO_WORDS))

    def test_either(self):
        for measure in ("--", "-u", "u-", "uu"):
            self.assertTrue(scans(measure, "abla"))

    def test_many_feet(self):
        self.assertTrue(scans("|".join(["-,u"] * 16), " ".join(["baba"] * 8)))
        self.assertFalse(scans("|".join(["-,u"] * 15), " ".join(["baba"] * 8)))
        hexameter = "|".join(["--,-uu"] * 4 + ["-uu", "-u,--"])
        self.assertTrue(scans(hexameter, "arma virumque canO trOjae quI prImus ab OrIs"))
        self.assertFalse(scans(hexameter, "arma virumque canO trOjae quI prImus ab"))


class CutsTest(unittest.TestCase):
    def check(self, line, measure, met, not_met):
        for cuts in met:
            with self.subTest(met=cuts):
                self.assertTrue(scans(f"{measure};{cuts}", line))
        for cuts in not_met:
            with self.subTest(not_met=cuts):
                self.assertFalse(scans(f"{measure};{cuts}", line))

    def test_with_none(self):
        self.assertTrue(scans("-u|-u", "arbacarba"))

    def test_with_one(self):
        self.check(TWO_WORDS, "-u|-u", ["1.2", "2.2"], ["1.1", "2.1"])
        self.check("arbacarba", "-u|-u", ["2.2"], ["1.1", "1.2", "2.1"])

    def test_with_several(self):
        met = ["1.1,1.2", "1.2,1.1", "2.1,1.1,1.2", "1.2,2.2"]
        self.check(TWO_WORDS, "-u|-u", met, ["1.1,2.1", "1.1,1.1", "2.1,1.3"])
        self.check(TWO_WORDS, "-u|-u", ["1.1,1.1,1.1,1.1,1.1,1.1,1.1,1.2"], ["1.1,1.1,1.1,1.1,1.1,1.1,1.1,2.1"])

    def test_a_place_that_no_way_has(self):
        self.check(TWO_WORDS, "-u|-u", ["1.3,1.2"], ["1.3", "1.4", "2.3", "2.4", "1.3,2.3"])

    def test_a_place_that_the_way_does_not_have(self):
        self.check(END_AT_2, "-,-u|u-,-", ["1.2", "2.1", "2.2"], ["1.1", "1.3"])
        self.check(END_AT_1, "-,-u|u-,-", ["1.1", "2.1", "2.2"], ["1.2"])
        self.check(END_AT_2, "-u|-,--", ["1.2", "2.1"], ["2.2"])
        self.check(END_AT_1, "-u,-|u-", ["1.1", "2.2"], ["1.2", "2.1"])

    def test_a_cut_does_not_help_without_the_ways(self):
        self.check(TWO_WORDS, "-u|uu", [], ["1.2", "2.2"])

    def test_a_place_is_reckoned_in_its_own_foot(self):
        self.check(TWO_WORDS, "-|u|-|u", ["2.1", "4.1"], ["1.1", "3.1", "1.2", "2.2"])
        self.check("baba baba ba bababa", "uu|uu|uuuu", ["1.2", "2.2", "3.1", "3.4"], ["1.1", "2.1", "3.2", "3.3"])

    def test_the_sixteenth_foot(self):
        line = " ".join(["ba" * 3, "ba" * 10, "ba" * 3])
        measure = "|".join(["u"] * 16)
        self.check(line, measure, ["3.1", "13.1", "16.1", "1.1,16.1"], ["1.1", "11.1", "12.1", "14.1", "15.1"])

    def test_hexameter(self):
        line = "arma virumque canO trOjae quI prImus ab OrIs"
        met = ["1.2", "2.2", "3.1", "4.1", "4.2", "5.2", "5.3", "6.2", "3.2,4.1"]
        not_met = ["1.1", "1.3", "2.1", "2.3", "3.2", "3.3", "5.1", "6.1", "3.2,5.1"]
        self.check(line, "--,-uu|--,-uu|--,-uu|--,-uu|-uu|-u,--", met, not_met)


if __name__ == "__main__":
    unittest.main()
