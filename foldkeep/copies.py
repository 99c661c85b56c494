"""Names of copies, and numbered names."""

MOST_ENDING = 10


def ending_start(name):
    """The index at which the ending of the name starts; its length if the ending is empty."""
    dot = name.rfind(".")
    if dot <= 0 or len(name) - dot > MOST_ENDING:
        return len(name)
    return dot


def ending(name):
    """The ending of a name, with its dot."""
    return name[ending_start(name):]


def stem(name):
    """The name without its ending."""
    return name[:ending_start(name)]


def with_word(longest, name, word):
    """The name with a word before its ending, and as much of its stem as there is room for."""
    room = longest - len(word) - len(ending(name))
    return stem(name)[:max(0, room)] + word + ending(name)


def copy_name(longest, name, number, k):
    """The name of a copy of the name, for the id `number`."""
    clock, device = number
    word = f" ({clock}-{device})"
    if k > 0:
        word = f"{word} {k}"
    return with_word(longest, name, word)


def numbered_name(longest, name, k):
    """The name with the number k; for 0 it is the name itself."""
    if k == 0:
        return name
    return with_word(longest, name, f" {k}")
