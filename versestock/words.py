"""Words of the stock: how they are read, and what of them matters for scanning."""

from versestock.signs import text_of

LETTERS = "abcdefghijklmnopqrstuvwxyzAEIOUY"
MOST_LETTERS = 23
MOST_STOCK = 64
MOST_IN_ROW = 12

SHORT_VOWELS = "aeiouy"
LONG_VOWELS = "AEIOUY"
LONG_PAIRS = ("ae", "au", "oe", "eu")
SHORT = "a"
LONG = "A"

# Weights: what the consonants between two vowels make of the first one's syllable.
NO_CONSONANT = 0
ONE_CONSONANT = 1
LOOSE_PAIR = 2
HEAVY = 3

# How the next word has to begin, for a form of a word to be the one that's heard.
ANYHOW = 0
WITH_VOWEL = 1
WITHOUT_VOWEL = 2


class StockRefused(Exception):
    pass


def read_stock(stock, most):
    if not 1 <= len(stock) <= MOST_STOCK or not 1 <= most <= MOST_IN_ROW:
        raise StockRefused()
    return [read_word(codes) for codes in stock]


def read_word(codes):
    word = text_of(codes, LETTERS)
    if word is None or not 1 <= len(word) <= MOST_LETTERS:
        raise StockRefused()
    return word


# One sign for each sound: SHORT or LONG for a vowel, a consonant as it is; what counts for nothing is left out.
def sounds_of(word):
    sounds = ""
    place = 0
    while place < len(word):
        if word[place:place + 2] in LONG_PAIRS:
            sounds += LONG
            place += 2
        else:
            sounds += sound_at(word, place)
            place += 1
    return sounds


def sound_at(word, place):
    letter = word[place]
    if letter == "h" or (letter == "u" and word[:place].endswith("q")):
        return ""
    if letter in LONG_VOWELS:
        return LONG
    if letter in SHORT_VOWELS:
        return SHORT
    return letter


def vowels_of(sounds):
    return [sound for sound in sounds if sound in (SHORT, LONG)]


# The consonants ahead of the first vowel, and then those behind each vowel.
def clusters_of(sounds):
    return sounds.replace(LONG, SHORT).split(SHORT)


def weight_of(cluster):
    count = len(cluster) + cluster.count("x") + cluster.count("z")
    if count == 0:
        return NO_CONSONANT
    if count == 1:
        return ONE_CONSONANT
    if len(cluster) == 2 and cluster[0] in "bcdfgpt" and cluster[1] in "lr":
        return LOOSE_PAIR
    return HEAVY


# A loose pair stands in one word, so consonants of two words never make one.
def joined_weight(weight, weight_behind):
    if weight == NO_CONSONANT:
        return weight_behind
    if weight_behind == NO_CONSONANT:
        return weight
    return HEAVY


# What of a word matters for scanning: (how it begins, its forms). A form is (wants, lead, weights): how the next
# word has to begin for it, the weight ahead of the first vowel, and the weights of the vowels that are left.
def shape_of(word):
    sounds = sounds_of(word)
    vowels = vowels_of(sounds)
    clusters = clusters_of(sounds)
    lead = weight_of(clusters[0])
    weights = [vowel_weight(vowel, cluster) for vowel, cluster in zip(vowels, clusters[1:])]
    begins = WITH_VOWEL if vowels and clusters[0] == "" else WITHOUT_VOWEL
    if vowels and clusters[-1] in ("", "m"):
        passed_over = (WITH_VOWEL, lead, settled(weights[:-1]))
        whole = (WITHOUT_VOWEL, lead, settled(weights))
        return (begins, (passed_over, whole))
    return (begins, ((ANYHOW, lead, settled(weights)),))


# Consonants of the next word come to the last vowel alone; with the others none and one do the same, and words are
# alike without that.
def settled(weights):
    inner = [max(weight, ONE_CONSONANT) for weight in weights[:-1]]
    return tuple(inner + weights[-1:])


# A long vowel is as heavy as can be, whatever consonants follow.
def vowel_weight(vowel, cluster):
    return HEAVY if vowel == LONG else weight_of(cluster)
