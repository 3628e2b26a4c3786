"""Texts as they are handed in, lists of bytes, and the numbers that are written in them."""

LONGEST = 65536
SIGNS = "\n ,=0123456789abcdefghijklmnopqrstuvwxyz"
# One sign can stand for every other byte, since none of them may stand in a word.
STRANGE = "?"


def decoded(data):
    signs = {}
    for sign in SIGNS:
        signs[ord(sign)] = sign
    return "".join([signs.get(byte, STRANGE) for byte in data])


def bounded_or_none(word, low, high):
    # The length goes first, since Python refuses to read a number of some thousand digits.
    if not word.isdigit() or len(word) > len(str(high)):
        return None
    if word[0] == "0" and word != "0":
        return None
    number = int(word)
    if number < low or number > high:
        return None
    return number
