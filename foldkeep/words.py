"""The words, numbers and quoted texts of which the lines of a script consist.

A part of a line is a tuple: ("word", text), ("number", integer) or ("quoted", text).
"""

from foldkeep.digits import DIGITS, plain_number

MOST_NUMBER = 4294967295
# More digits are always too many, whatever they are.
MOST_DIGITS = 10
# What a backslash and this character stand for in a quoted text.
ESCAPES = {"\"": "\"", "\\": "\\", "n": "\n"}


def parts_of(line):
    """The parts of a line, or None if it is not made of parts with exactly one space between two of them."""
    parts = []
    at = 0
    while at <= len(line):
        found = part_at(line, at)
        if found is None:
            return None
        part, end = found
        parts.append(part)
        if end < len(line) and line[end] != " ":
            return None
        at = end + 1
    return parts


def part_at(line, at):
    """The part that starts there, and the index at which it ends; None if there is none."""
    if line[at:at + 1] == "\"":
        return quoted_at(line, at)
    end = line.find(" ", at)
    if end < 0:
        end = len(line)
    word = line[at:end]
    if word == "":
        return None
    if word[0] not in DIGITS:
        return (("word", word), end)
    number = number_of(word)
    if number is None:
        return None
    return (("number", number), end)


def number_of(word):
    """The number that is written so, or None."""
    number = plain_number(word, MOST_DIGITS)
    if number is None or number > MOST_NUMBER:
        return None
    return number


def quoted_at(line, at):
    """The quoted text that starts there, and the index behind it; None if there is none."""
    signs = []
    at += 1
    while at < len(line) and line[at] != "\"":
        sign = line[at]
        if sign == "\\":
            at += 1
            sign = ESCAPES.get(line[at:at + 1])
        elif sign == "\n":
            return None
        if sign is None:
            return None
        signs.append(sign)
        at += 1
    if at >= len(line):
        return None
    return (("quoted", "".join(signs)), at + 1)
