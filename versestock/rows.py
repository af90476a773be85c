"""Rows of words: the first one that scans behind another."""

from versestock.completions import Completions
from versestock.kinds import kinds_of, taken_by
from versestock.scanning import Scanner
from versestock.words import shape_of

# A line's bytes, and one more, for each word is reckoned with a blank.
LINE_ROOM = 256


class AfterRefused(Exception):
    pass


def check_after(after, most, stock_count):
    if len(after) > most or len(set(after)) != len(after):
        raise AfterRefused()
    if any([number >= stock_count for number in after]):
        raise AfterRefused()


# Where no row can be too long, sizes don't matter, and more words are alike without them.
def sizes_of(words, most):
    sizes = [len(word) + 1 for word in words]
    if max(sizes) * most <= LINE_ROOM:
        return [0 for size in sizes]
    return sizes


class Search:
    def __init__(self, measure, words, most):
        kinds = kinds_of([shape_of(word) for word in words], sizes_of(words, most), most)
        self.scanner = Scanner(measure)
        self.completions = Completions(self.scanner, kinds)
        self.most = most
        self.kind_by_number = {}
        for kind in kinds:
            for number in kind.numbers:
                self.kind_by_number[number] = kind

    # No row at all is [].
    def first_row_behind(self, after):
        row = list(after)
        least = 0
        while True:
            number = self.first_that_fits(row, least)
            if number is not None:
                row.append(number)
                if self.scans(row):
                    return row
                least = 0
            elif row:
                least = row.pop() + 1
            else:
                return row

    # The least number, of those from least on, that row can go on with to become one that scans.
    def first_that_fits(self, row, least):
        if len(row) == self.most:
            return None
        stands = self.stands_of(row)
        for number in range(least, len(self.kind_by_number)):
            if number not in row and self.fits(stands, row + [number]):
                return number
        return None

    # Whether the row, whose last word comes behind these stands, scans or can become one that does.
    def fits(self, stands, row):
        kinds = self.kinds_in(row)
        room = LINE_ROOM - sum([kind.size for kind in kinds])
        if room < 0:
            return False
        taken = taken_by(kinds)
        left = self.most - len(row)
        for target in self.stands_behind(stands, kinds[-1]):
            if self.completions.can_complete(target, taken, left, room):
                return True
        return False

    def scans(self, row):
        return any([self.scanner.is_end(stand) for stand in self.stands_of(row)])

    def kinds_in(self, row):
        return [self.kind_by_number[number] for number in row]

    def stands_of(self, row):
        stands = [self.scanner.first_stand()]
        for kind in self.kinds_in(row):
            stands = self.stands_behind(stands, kind)
        return stands

    def stands_behind(self, stands, kind):
        behind = {}
        for stand in stands:
            for target in self.scanner.targets(stand, kind.shape):
                behind[target] = True
        return list(behind)
