"""Where a row of words stands in a measure.

A spot is (foot, place, rest, met): how many feet are done, how many places of the foot behind these, what is left of
the way that's taken for it (nothing ahead of its first place), and whether a cut is met. Once no cut is to be met in
the foot any more, the place doesn't matter; it is set to the last one there may be, so that like spots are the same.

A stand is (spot, weight, wants): the spot behind all syllables but the last one, which hangs on the words to come;
that syllable's weight so far; and how the next word has to begin, if there is one.
"""

from versestock.measures import MOST_PLACES
from versestock.words import ANYHOW, WITH_VOWEL, joined_weight

SPOT = 0
WEIGHT = 1
WANTS = 2

# A stand's weight as long as there's no syllable at all.
NO_SYLLABLE = -1

# The marks that a syllable may stand under, by its weight.
MARKS = ("u", "u", "-u", "-")
EITHER_MARK = "-u"


class Scanner:
    def __init__(self, measure):
        self.feet = measure.feet
        self.cuts = measure.cuts
        self.last_cuts = {}
        for foot, place in sorted(measure.cuts):
            self.last_cuts[foot] = place
        self.end = (len(measure.feet), 0, "", True)
        self.known_targets = {}

    def first_stand(self):
        return ((0, 0, "", self.cuts == []), NO_SYLLABLE, ANYHOW)

    # The line's last syllable is either, and a word ends with it.
    def is_end(self, stand):
        if stand[WANTS] == WITH_VOWEL or stand[WEIGHT] == NO_SYLLABLE:
            return False
        return self.end in self.spots_behind([stand[SPOT]], EITHER_MARK, True)

    # The stands behind one more word of this shape.
    def targets(self, stand, shape):
        key = (stand, shape)
        if key not in self.known_targets:
            self.known_targets[key] = self.find_targets(stand, shape)
        return self.known_targets[key]

    def find_targets(self, stand, shape):
        begins = shape[0]
        forms = shape[1]
        if stand[WANTS] not in (ANYHOW, begins):
            return []
        found = []
        for wants, lead, weights in forms:
            weight = stand[WEIGHT]
            if weight != NO_SYLLABLE:
                weight = joined_weight(weight, lead)
            if weights == ():
                found.append((stand[SPOT], weight, wants))
            else:
                spots = self.spots_behind_word(stand[SPOT], weight, weights)
                found.extend([(spot, weights[-1], wants) for spot in spots])
        return found

    # The word's first vowel settles the syllable ahead of it, with which a word ends; its own last one stays open.
    def spots_behind_word(self, spot, weight, weights):
        spots = [spot]
        if weight != NO_SYLLABLE:
            spots = self.spots_behind(spots, MARKS[weight], True)
        for inner in weights[:-1]:
            spots = self.spots_behind(spots, MARKS[inner], False)
        return spots

    def spots_behind(self, spots, marks, ends):
        found = {}
        for foot, place, rest, met in spots:
            met_now = met or (ends and (foot + 1, place + 1) in self.cuts)
            for way in self.ways_on(foot, rest):
                if way[0] in marks and (met_now or self.cut_can_come(foot, place + 1)):
                    found[self.spot_at(foot, place + 1, way[1:], met_now)] = True
        return list(found)

    # Where no cut is met and none can be any more, there's no need to go on.
    def cut_can_come(self, foot, place):
        return max(self.cuts) > (foot + 1, place)

    # Where nothing is left of the way, the foot is done.
    def spot_at(self, foot, place, rest, met):
        if rest == "":
            return (foot + 1, 0, "", met)
        if met or place >= self.last_cuts.get(foot + 1, 0):
            return (foot, MOST_PLACES, rest, met)
        return (foot, place, rest, met)

    def ways_on(self, foot, rest):
        if rest != "":
            return [rest]
        return self.feet[foot] if foot < len(self.feet) else []
