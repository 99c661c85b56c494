"""Marks, which describe texts, and pieces of texts."""

MOST_PIECE = 4096
MODULUS = 4294967291
LOW_FACTOR = 257
HIGH_FACTOR = 65599


def checksum(text, factor):
    """The checksum of the text with this factor."""
    result = 0
    for sign in text:
        result = (result * factor + ord(sign) + 1) % MODULUS
    return result


def mark_of(text, runs):
    """The mark of a file with this text that may be run or not."""
    return (len(text), checksum(text, LOW_FACTOR), checksum(text, HIGH_FACTOR), runs)


def piece_of(text, start):
    """The piece of the text that starts at the index."""
    return text[start:start + MOST_PIECE]
