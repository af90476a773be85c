"""A plain reading of the document, slow and by itself: what the program's answers are held against."""

import itertools
import re

VOWELS = "aeiouyAEIOUY"


def codes(text):
    return [ord(sign) for sign in text]


def letters_of(word):
    """The word as (what it is, is it a long vowel) for each vowel and consonant, without what counts for nothing."""
    found = []
    for part in re.findall("qu|ae|au|oe|eu|.", word):
        if part == "qu":
            found.append(("q", False))
        elif part in ("ae", "au", "oe", "eu"):
            found.append(("V", True))
        elif part in VOWELS:
            found.append(("V", part.isupper()))
        elif part != "h":
            found.append((part, False))
    return found


def without_passed_over(words):
    heard = [letters_of(word) for word in words]
    left = []
    for index, letters in enumerate(heard):
        signs = "".join(sign for sign, is_long in letters)
        follower = "".join(sign for sign, is_long in heard[index + 1]) if index + 1 < len(heard) else ""
        if follower.startswith("V") and signs.endswith("V"):
            letters = letters[:-1]
        elif follower.startswith("V") and signs.endswith("Vm"):
            letters = letters[:-2]
        left.append(letters)
    return left


def syllables_of(line):
    """For each syllable: the marks that it bears, and whether a word ends with it."""
    stream = []
    for number, letters in enumerate(without_passed_over(line.split(" "))):
        stream.extend((sign, is_long, number) for sign, is_long in letters)
    at = [index for index, item in enumerate(stream) if item[0] == "V"]
    found = []
    for index, place in enumerate(at):
        if index + 1 == len(at):
            found.append(("-u", True))
            continue
        between = stream[place + 1:at[index + 1]]
        ends = stream[place][2] != stream[at[index + 1]][2]
        found.append((marks_of(stream[place][1], between), ends))
    return found


def marks_of(is_long, between):
    signs = "".join(item[0] for item in between)
    count = sum(2 if sign in "xz" else 1 for sign in signs)
    if is_long:
        return "-"
    if count <= 1:
        return "u"
    if re.fullmatch("[bcdfgpt][lr]", signs) and between[0][2] == between[1][2]:
        return "-u"
    return "-"


def line_scans(measure, line):
    """Every choice of one way for each foot is tried."""
    syllables = syllables_of(line)
    if len(line) > 255 or not 1 <= len(syllables) <= 64:
        return False
    feet, _, cuts = measure.partition(";")
    for choice in itertools.product(*(foot.split(",") for foot in feet.split("|"))):
        marks = "".join(choice)
        if len(marks) == len(syllables) and all(m in s[0] for m, s in zip(marks, syllables)):
            if cuts == "" or any(cut_is_met(cut, choice, syllables) for cut in cuts.split(",")):
                return True
    return False


def line_scans_by_steps(measure, line):
    """The same without trying every choice, for measures with many: foot by foot, how many syllables may be done."""
    syllables = syllables_of(line)
    feet, _, cuts = measure.partition(";")
    for cut in cuts.split(","):
        done = {0}
        for number, foot in enumerate(feet.split("|"), start=1):
            place = int(cut.split(".")[1]) if cut.split(".")[0] == str(number) else 0
            done = {start + len(way) for start in done for way in foot.split(",")
                    if way_fits(way, syllables[start:start + len(way)], place)}
        if len(syllables) in done:
            return len(line) <= 255
    return False


def way_fits(way, syllables, cut_place):
    if len(way) != len(syllables) or not all(m in s[0] for m, s in zip(way, syllables)):
        return False
    return cut_place == 0 or (cut_place <= len(way) and syllables[cut_place - 1][1])


def cut_is_met(cut, choice, syllables):
    foot, place = (int(digits) for digits in cut.split("."))
    if place > len(choice[foot - 1]):
        return False
    return syllables[sum(len(way) for way in choice[:foot - 1]) + place - 1][1]


def all_rows(stock_count, most):
    rows = []
    for length in range(1, most + 1):
        rows.extend(list(row) for row in itertools.permutations(range(stock_count), length))
    return sorted(rows)


def rows_that_scan(most, measure, words):
    return [row for row in all_rows(len(words), most)
            if line_scans(measure, " ".join(words[number] for number in row))]
