"""Which of the words that are taken spoil the completions that are known.

A hit is what a completion needs of what's taken, as bits; to take one of these is enough to spoil it. Runs give for
each bit the least that has to be taken for it.
"""


# Of what's taken enough for each hit, and none too many.
def spoilers(hits, runs):
    spoiling = 0
    for hit in hits:
        if has_one_bit(hit):
            spoiling |= runs[hit]
    left = [hit for hit in hits if hit & spoiling == 0]
    for bit in needed(common_bits(left, runs), left, runs):
        spoiling |= runs[bit]
    return spoiling


def has_one_bit(number):
    return number & (number - 1) == 0


# For each hit a bit that is set in it, the commonest one first.
def common_bits(hits, runs):
    bits = []
    while hits != []:
        bit = commonest_bit(hits)
        bits.append(bit)
        run = runs[bit]
        hits = [hit for hit in hits if hit & run == 0]
    return bits


def commonest_bit(hits):
    counts = {}
    for hit in hits:
        for bit in bits_of(hit):
            counts[bit] = counts.get(bit, 0) + 1
    return max(counts, key=lambda bit: counts[bit])


def bits_of(number):
    bits = []
    while number != 0:
        rest = number & (number - 1)
        bits.append(number - rest)
        number = rest
    return bits


# Those of the bits without which some hit would be left.
def needed(bits, hits, runs):
    kept = []
    for index, bit in enumerate(bits):
        others = 0
        for other in kept + bits[index + 1:]:
            others |= runs[other]
        if any([hit & others == 0 for hit in hits]):
            kept.append(bit)
    return kept
