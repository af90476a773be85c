"""Rows of words: the first one that scans behind another."""

from versestock.scanning import Scanner
from versestock.words import shape_of

# A line's bytes, and one more, for each word is reckoned with a blank.
LINE_ROOM = 256


class AfterRefused(Exception):
    pass


def check_after(after, most, stock_count):
    if len(after) > most or len(set(after)) != len(after):
        raise AfterRefused()
    if any([number >= stock_count for number in after]):
        raise AfterRefused()


# Where no row can be too long, sizes don't matter, and more words are alike without them.
def sizes_of(words, most):
    sizes = [len(word) + 1 for word in words]
    if max(sizes) * most <= LINE_ROOM:
        return [0 for size in sizes]
    return sizes


# Lists of the numbers of words that may stand in for one another; the short words first, since what is completed with
# these will do in less room.
def groups_of(shapes, sizes):
    groups = {}
    for number, kind in enumerate(zip(shapes, sizes)):
        groups.setdefault(kind, []).append(number)
    return sorted(groups.values(), key=lambda group: sizes[group[0]])


# What's known of the completions from one stand: one of them, and the most room that's too little for any.
class Kept:
    def __init__(self, numbers):
        self.numbers = numbers
        self.too_little = -1


class Search:
    def __init__(self, measure, words, most):
        self.scanner = Scanner(measure)
        self.most = most
        self.shapes = [shape_of(word) for word in words]
        self.sizes = sizes_of(words, most)
        self.largest = max(self.sizes)
        self.groups = groups_of(self.shapes, self.sizes)
        self.known = {}

    # No row at all is [].
    def first_row_behind(self, after):
        row = list(after)
        least = 0
        while True:
            number = self.first_that_fits(row, least)
            if number is not None:
                row.append(number)
                if self.scans(row):
                    return row
                least = 0
            elif row:
                least = row.pop() + 1
            else:
                return row

    # The least number, of those from least on, that row can go on with to become one that scans.
    def first_that_fits(self, row, least):
        stands = self.stands_of(row)
        room = LINE_ROOM - self.size_of(row)
        for number in range(least, len(self.shapes)):
            if number not in row and self.fits(stands, number, room, row):
                return number
        return None

    def fits(self, stands, number, room, row):
        left = self.most - len(row)
        return any([self.completion_with(stand, number, left, room, row) is not None for stand in stands])

    def scans(self, row):
        return any([self.scanner.is_end(stand) for stand in self.stands_of(row)])

    def stands_of(self, row):
        stands = {self.scanner.first_stand(): True}
        for number in row:
            behind = {}
            for stand in stands:
                for target in self.scanner.targets(stand, self.shapes[number]):
                    behind[target] = True
            stands = behind
        return list(stands)

    # Numbers of at most left words, none of them barred, that lead from stand to a row that scans; None if there
    # are none. To search anew for each list of barred words would take ages. So a completion is sought without a
    # care for them first; only the words for which it won't do are barred, and what's found is kept for all lists.
    def completion(self, stand, left, room, barred):
        shunned = []
        while True:
            numbers = self.kept_completion(stand, left, room, shunned)
            if numbers is None:
                return None
            clashes = [number for number in numbers if number in barred]
            if clashes == []:
                return numbers
            shunned = sorted(shunned + clashes[:1])

    # What's found in some room is good in any that's not less than its size; where there's none, less won't do either.
    def kept_completion(self, stand, left, room, barred):
        key = (stand, left, tuple(barred))
        if key not in self.known:
            self.known[key] = Kept(self.find_completion(stand, left, left * self.largest, barred))
        kept = self.known[key]
        if kept.numbers is not None and kept.too_little < room < self.size_of(kept.numbers):
            numbers = self.find_completion(stand, left, room, barred)
            if numbers is None:
                kept.too_little = room
            else:
                kept.numbers = numbers
        return kept.numbers if room > kept.too_little else None

    def size_of(self, numbers):
        return sum([self.sizes[number] for number in numbers])

    # Words of one group do the same, so the first one that's free stands for all of them.
    def find_completion(self, stand, left, room, barred):
        if self.scanner.is_end(stand):
            return []
        for group in self.groups:
            free = [number for number in group if number not in barred]
            if free != []:
                numbers = self.completion_with(stand, free[0], left, room, barred)
                if numbers is not None:
                    return numbers
        return None

    def completion_with(self, stand, number, left, room, barred):
        if left == 0 or self.sizes[number] > room:
            return None
        for target in self.scanner.targets(stand, self.shapes[number]):
            numbers = self.completion(target, left - 1, room - self.sizes[number], barred + [number])
            if numbers is not None:
                return [number] + numbers
        return None
