"""Integers that are written in decimal digits."""

DIGITS = "0123456789"


def plain_number(word, most):
    """The integer that the word writes in decimal digits without a leading zero, at most so many; None otherwise."""
    if word == "" or len(word) > most:
        return None
    for sign in word:
        if sign not in DIGITS:
            return None
    if word != "0" and word[0] == "0":
        return None
    return int(word)
