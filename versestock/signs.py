"""Texts from bytes."""


# None if some byte is none of the signs.
def text_of(codes, signs):
    known = {}
    for sign in signs:
        known[ord(sign)] = sign
    if any([code not in known for code in codes]):
        return None
    return "".join([known[code] for code in codes])
