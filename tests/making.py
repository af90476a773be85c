"""Words and measures at random, from a source of one's own."""


def some_word(source):
    signs = source.choice(["aeouAhm", "aeiouyAEqhmblrtx", "bhlrtmxzq", "abcdefghijklmnopqrstuvwxyzAEIOUY"])
    return "".join(source.choice(signs) for index in range(source.randint(1, source.choice([1, 2, 3, 6]))))


def some_measure(source):
    feet = [",".join("".join(source.choice("-u") for place in range(source.randint(1, source.choice([1, 2, 4]))))
                     for way in range(source.randint(1, 4)))
            for foot in range(source.randint(1, source.choice([1, 2, 4])))]
    cuts = [f"{source.randint(1, len(feet))}.{source.randint(1, 4)}" for cut in range(source.choice([0, 0, 1, 2, 3]))]
    return "|".join(feet) + (";" + ",".join(cuts) if cuts else "")
