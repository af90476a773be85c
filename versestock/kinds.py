"""Kinds of words: words of one kind may stand in for one another.

Which words are taken is told by bits. A kind has a bit for each of its words, as far as a row has room for them; of
these as many are set, from the lowest one on, as words of the kind are taken, no matter which.

What a completion needs is told by the same bits: for each kind of which it has words, the one bit that must not be
set for these to be free. So it can be had just if no bit is both needed and taken.
"""


# The numbers of its words, what these have in common, and its bits: so many, from a place on.
class Kind:
    def __init__(self, numbers, shape, size, place, count):
        self.numbers = numbers
        self.shape = shape
        self.size = size
        self.lowest = 1 << place
        self.highest = 1 << (place + count - 1)
        self.bits = 2 * self.highest - self.lowest

    def is_used_up(self, taken):
        return taken & self.bits == self.bits

    # Those that are set are a run from the lowest one on, so the sum is the bit behind it.
    def taken_with(self, taken):
        return taken | ((taken & self.bits) + self.lowest)

    # The more words of a kind are needed, the fewer may be taken.
    def needs_with(self, needs):
        own = needs & self.bits
        return needs - own + (own >> 1 if own != 0 else self.highest)


# The short words first, since what is completed with these will do in less room.
def kinds_of(shapes, sizes, most):
    alike = {}
    for number, traits in enumerate(zip(shapes, sizes)):
        alike.setdefault(traits, []).append(number)
    kinds = []
    place = 0
    for shape, size in sorted(alike, key=lambda traits: traits[1]):
        numbers = alike[(shape, size)]
        count = min(len(numbers), most)
        kinds.append(Kind(numbers, shape, size, place, count))
        place += count
    return kinds


def taken_by(kinds):
    taken = 0
    for kind in kinds:
        taken = kind.taken_with(taken)
    return taken


# For each bit the least that has to be taken for it to be set: the bits of its kind up to it.
def runs_of(kinds):
    runs = {}
    for kind in kinds:
        bit = kind.lowest
        while bit <= kind.highest:
            runs[bit] = 2 * bit - kind.lowest
            bit = 2 * bit
    return runs
