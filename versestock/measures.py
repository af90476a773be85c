"""Measures, read from their bytes."""

from versestock.signs import text_of

MEASURE_SIGNS = "-u|,;.0123456789"
MOST_BYTES = 255
MOST_FEET = 16
MOST_WAYS = 4
MOST_PLACES = 4
MOST_CUTS = 8


class MeasureRefused(Exception):
    pass


# feet: for each foot the list of its ways; cuts: a list of (foot, place), both from 1 on.
class Measure:
    def __init__(self, feet, cuts):
        self.feet = feet
        self.cuts = cuts


def read_measure(codes):
    text = text_of(codes, MEASURE_SIGNS)
    if text is None or not 1 <= len(text) <= MOST_BYTES:
        raise MeasureRefused()
    parts = text.split(";")
    if len(parts) > 2:
        raise MeasureRefused()
    feet = [read_foot(foot) for foot in split_up_to(parts[0], "|", MOST_FEET)]
    cuts = []
    if len(parts) == 2:
        cuts = [read_cut(cut, len(feet)) for cut in split_up_to(parts[1], ",", MOST_CUTS)]
    return Measure(feet, cuts)


def split_up_to(text, sign, most):
    parts = text.split(sign)
    if len(parts) > most:
        raise MeasureRefused()
    return parts


def read_foot(text):
    ways = split_up_to(text, ",", MOST_WAYS)
    if not all([is_way(way) for way in ways]):
        raise MeasureRefused()
    return ways


def is_way(text):
    return 1 <= len(text) <= MOST_PLACES and text.count("-") + text.count("u") == len(text)


def read_cut(text, feet_count):
    parts = text.split(".")
    if len(parts) != 2:
        raise MeasureRefused()
    return (read_number(parts[0], feet_count), read_number(parts[1], MOST_PLACES))


# Held against what is written for each number, so that no 0 in front can slip through.
def read_number(digits, most):
    for number in range(1, most + 1):
        if str(number) == digits:
            return number
    raise MeasureRefused()
