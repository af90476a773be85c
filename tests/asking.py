"""Ways to ask the program, with texts in the place of bytes."""

from versestock.desk import next_row

from plain import codes


def ask(measure, words, most, after=()):
    return next_row(most, codes(measure), list(after), [codes(word) for word in words])


def scans(measure, line):
    """Whether the line's words, as they stand, are a row that scans: it comes right behind all of them but the last."""
    words = line.split(" ")
    row = list(range(len(words)))
    return ask(measure, words, len(words), row[:-1]) == [len(row)] + row


def feet_of(count, place=None, foot="-,u"):
    """A measure of one syllable a foot; the foot at the place is the one that's given, the others take any."""
    return "|".join(foot if index == place else "-,u" for index in range(count))


def count_of(line):
    """How many syllables the line has, 16 at most."""
    counts = [count for count in range(1, 17) if scans(feet_of(count), line)]
    return counts[0] if counts else 0


def quantities(line):
    """One sign for each syllable: - long, u short, x either."""
    signs = {(True, False): "-", (False, True): "u", (True, True): "x"}
    count = count_of(line)
    return "".join(signs[(scans(feet_of(count, place, "-"), line), scans(feet_of(count, place, "u"), line))]
                   for place in range(count))


def word_ends(line):
    """The syllables, from 1 on, with which a word ends."""
    count = count_of(line)
    return [place for place in range(1, count + 1) if scans(f"{feet_of(count)};{place}.1", line)]


def all_answers(measure, words, most):
    """From no row on, each answer handed in as the next after, until there's none."""
    rows = []
    answer = ask(measure, words, most)
    while answer != [0]:
        if answer[0] != len(answer) - 1 or answer[0] < 1 or (rows and answer[1:] <= rows[-1]):
            raise AssertionError(f"{answer} behind {rows[-1:]}")
        rows.append(answer[1:])
        answer = ask(measure, words, most, answer[1:])
    return rows
