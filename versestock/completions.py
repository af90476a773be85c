"""Whether a row can be completed to one that scans, from where it stands.

To search anew for each lot of words that are taken would take ages. So what's found is kept for all of them: a
completion does wherever none of its words is taken, a lack holds wherever all of its words are. And a search bars only
as many of the taken words as are enough to spoil each completion that's known. If it finds one, that's a new one; if
it finds none, that's a lack with no word too many, which spares all searches where these words are among the taken.
"""

from versestock.kinds import runs_of
from versestock.spoiling import spoilers

# More than any row has words, or any line bytes.
BOUNDLESS = 1000


# So many words, of such a size, that lead to a row that scans.
class Completion:
    def __init__(self, needs, words, size):
        self.needs = needs
        self.words = words
        self.size = size


# Where these are taken, there's no completion of at most so many words and at most such a size.
class Lack:
    def __init__(self, taken, words, size):
        self.taken = taken
        self.words = words
        self.size = size

    def covers(self, other):
        return self.taken & other.taken == self.taken and self.words >= other.words and self.size >= other.size


# What's known of the completions from a stand, whose steps are (kind, stand that a word of that kind leads to).
class Known:
    def __init__(self, steps, is_complete):
        self.steps = steps
        self.completions = [Completion(0, 0, 0)] if is_complete else []
        self.lacks = []

    def add_lack(self, lack):
        self.lacks = [other for other in self.lacks if not lack.covers(other)] + [lack]

    # A completion, or the lack of one, or None if neither is known. What was found last is the likeliest.
    def answer_where(self, taken, left, room):
        for lack in reversed(self.lacks):
            if lack.taken & taken == lack.taken and left <= lack.words and room <= lack.size:
                return lack
        for completion in reversed(self.completions):
            if completion.needs & taken == 0 and completion.words <= left and completion.size <= room:
                return completion
        return None

    def hits(self, taken, left, room):
        fitting = [one for one in self.completions if one.words <= left and one.size <= room]
        return [one.needs & taken for one in fitting]


class Completions:
    def __init__(self, scanner, kinds):
        self.scanner = scanner
        self.kinds = kinds
        self.runs = runs_of(kinds)
        self.known = {}
        self.known_by_steps = {}

    # Whether at most left words, of at most the size room, none of them taken, lead from stand to a row that scans.
    def can_complete(self, stand, taken, left, room):
        return isinstance(self.answer(self.known_of(stand), taken, left, room), Completion)

    # Stands with the same steps have the same completions, so what's known is known of all of them.
    def known_of(self, stand):
        if stand not in self.known:
            key = (self.scanner.is_end(stand), self.steps_from(stand))
            if key not in self.known_by_steps:
                self.known_by_steps[key] = Known(key[1], key[0])
            self.known[stand] = self.known_by_steps[key]
        return self.known[stand]

    def steps_from(self, stand):
        steps = []
        for number, kind in enumerate(self.kinds):
            steps.extend([(number, target) for target in self.scanner.targets(stand, kind.shape)])
        return tuple(steps)

    def answer(self, known, taken, left, room):
        found = known.answer_where(taken, left, room)
        while found is None:
            self.search(known, spoilers(known.hits(taken, left, room), self.runs), left, room)
            found = known.answer_where(taken, left, room)
        return found

    # Adds to what's known a completion without any of the barred words, or the lack of one.
    def search(self, known, barred, left, room):
        if left == 0:
            known.add_lack(Lack(barred, 0, BOUNDLESS))
            return
        words = BOUNDLESS
        size = BOUNDLESS
        for number, target in known.steps:
            kind = self.kinds[number]
            if not kind.is_used_up(barred):
                found = self.answer_with(kind, target, barred, left, room)
                if isinstance(found, Completion):
                    known.completions.append(found)
                    return
                words = min(words, found.words)
                size = min(size, found.size)
        known.add_lack(Lack(barred, words, size))

    # What's answered if a word of this kind, which leads to this target, is next.
    def answer_with(self, kind, target, barred, left, room):
        if kind.size > room:
            return Lack(barred, BOUNDLESS, kind.size - 1)
        found = self.answer(self.known_of(target), kind.taken_with(barred), left - 1, room - kind.size)
        if isinstance(found, Completion):
            return Completion(kind.needs_with(found.needs), found.words + 1, found.size + kind.size)
        return Lack(barred, found.words + 1, found.size + kind.size)
