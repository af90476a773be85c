"""The parts of the search: kinds of words, what spoils completions, and what is kept between two questions."""

import itertools
import random
import unittest

from versestock.kinds import kinds_of, runs_of, taken_by
from versestock.measures import read_measure
from versestock.rows import Search
from versestock.spoiling import spoilers

from making import some_measure, some_word
from plain import all_rows, codes, line_scans, line_scans_by_steps, rows_that_scan


class KindsTest(unittest.TestCase):
    def test_words_that_are_alike(self):
        kinds = kinds_of(["p", "q", "p", "p", "q"], [3, 3, 3, 2, 3], 12)
        self.assertEqual([(kind.shape, kind.size, kind.numbers) for kind in kinds],
                         [("p", 2, [3]), ("p", 3, [0, 2]), ("q", 3, [1, 4])])

    def test_bits_of_their_own(self):
        kinds = kinds_of(list("ppqrrr"), [0] * 6, 12)
        self.assertEqual([kind.bits for kind in kinds], [0b11, 0b100, 0b111000])
        self.assertEqual([kind.bits for kind in kinds_of(list("ppqrrr"), [0] * 6, 2)], [0b11, 0b100, 0b11000])

    def test_what_is_needed_is_free_just_if_there_are_enough(self):
        kinds = kinds_of(list("ppppqqrrr"), [0] * 9, 12)
        for kind, count in zip(kinds, (4, 2, 3)):
            for taken_count, needed_count in itertools.product(range(count + 1), range(count + 1)):
                taken = taken_by([kind] * taken_count)
                needs = 0
                for step in range(needed_count):
                    needs = kind.needs_with(needs)
                with self.subTest(count=count, taken=taken_count, needed=needed_count):
                    self.assertEqual(needs & taken == 0, taken_count + needed_count <= count or needed_count == 0)
                    self.assertEqual(kind.is_used_up(taken), taken_count == count)

    def test_the_order_does_not_matter(self):
        kinds = kinds_of(list("ppqrrr"), [0] * 6, 12)
        for row in itertools.permutations([kinds[0], kinds[0], kinds[1], kinds[2]]):
            self.assertEqual(taken_by(row), 0b1111)

    def test_runs(self):
        self.assertEqual(runs_of(kinds_of(list("ppqrrr"), [0] * 6, 12)),
                         {1: 1, 2: 0b11, 4: 4, 8: 8, 16: 0b11000, 32: 0b111000})


class SpoilersTest(unittest.TestCase):
    def test_none(self):
        self.assertEqual(spoilers([], {}), 0)

    def test_one_that_is_in_all(self):
        runs = {1 << place: 1 << place for place in range(6)}
        self.assertEqual(spoilers([0b1010, 0b1100, 0b101000], runs), 0b1000)

    def test_some_that_are_alone(self):
        runs = {1 << place: 1 << place for place in range(6)}
        self.assertEqual(spoilers([0b10, 0b1100, 0b1000, 0b101], runs) & 0b1010, 0b1010)

    def test_enough_and_none_too_many(self):
        source = random.Random(1)
        runs = {1 << place: 1 << place for place in range(8)}
        for trial in range(2000):
            hits = [source.randint(1, 255) for index in range(source.randint(1, 12))]
            hits = [hit & source.randint(1, 255) or 1 for hit in hits]
            spoiling = spoilers(hits, runs)
            self.assertTrue(all(hit & spoiling for hit in hits))
            for bit in runs:
                if spoiling & bit:
                    self.assertFalse(all(hit & (spoiling - bit) for hit in hits), (hits, spoiling, bit))

    def test_words_that_are_alike_are_taken_from_the_lowest_bit_on(self):
        source = random.Random(2)
        kinds = kinds_of(list("ppppqqrrr"), [0] * 9, 12)
        runs = runs_of(kinds)
        for trial in range(2000):
            hits = [sum(source.choice([0, *(bit for bit in runs if bit & kind.bits)]) for kind in kinds) or 1
                    for index in range(source.randint(1, 8))]
            spoiling = spoilers(hits, runs)
            self.assertTrue(all(hit & spoiling for hit in hits))
            self.assertTrue(all(spoiling & run == run for bit, run in runs.items() if spoiling & bit))


class KeptTest(unittest.TestCase):
    def test_one_search_for_all_questions(self):
        source = random.Random(2)
        for trial in range(200):
            words = [some_word(source) for index in range(source.randint(1, 5))]
            words = [source.choice(words) for word in words] if trial % 3 == 0 else words
            measure = some_measure(source)
            most = source.randint(1, 4)
            wanted = rows_that_scan(most, measure, words)
            search = Search(read_measure(codes(measure)), words, most)
            afters = [[]] + all_rows(len(words), most)
            source.shuffle(afters)
            for after in afters:
                behind = [row for row in wanted if row > after]
                with self.subTest(measure=measure, words=words, most=most, after=after):
                    self.assertEqual(search.first_row_behind(after), behind[0] if behind else [])


class PlainTest(unittest.TestCase):
    def test_both_plain_readings_say_the_same(self):
        source = random.Random(3)
        seen = set()
        for trial in range(3000):
            line = " ".join(some_word(source) for index in range(source.randint(1, 4)))
            measure = some_measure(source)
            scans = line_scans(measure, line)
            seen.add((scans, ";" in measure))
            self.assertEqual(line_scans_by_steps(measure, line), scans, (measure, line))
        self.assertEqual(len(seen), 4)


if __name__ == "__main__":
    unittest.main()
