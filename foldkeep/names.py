"""Names, paths, and the rules that describe hosts."""

MOST_SIGNS = 100
FIRST_SIGN = 32


class Rule:
    """What names a host can have, and what it can do and tell."""

    def __init__(self, *, alike=(), unfit=(), longest=80, swaps=True, reads=True, cuts=True, turns=True):
        self.alike = tuple(alike)
        self.unfit = tuple(unfit)
        self.longest = longest
        self.swaps = swaps
        self.reads = reads
        self.cuts = cuts
        self.turns = turns


def is_name(text):
    """True if the string is a name."""
    if text == "." or text == ".." or "/" in text:
        return False
    if len(text) < 1 or len(text) > MOST_SIGNS:
        return False
    for sign in text:
        if ord(sign) < FIRST_SIGN:
            return False
    return True


def folded(rule, name):
    """The characters as which those of the name count: alike names have the same ones."""
    counts_as = {}
    for pair in rule.alike:
        # The first pair of a character counts, so a later one must not replace it.
        counts_as.setdefault(pair[0], pair[1])
    return "".join([counts_as.get(sign, sign) for sign in name])


def same_name(rule, first, second):
    """True if the two names are alike."""
    return folded(rule, first) == folded(rule, second)


def fits(rule, name):
    """True if the string is a name that the host can have."""
    if not is_name(name) or len(name) > rule.longest:
        return False
    for unfit in rule.unfit:
        if same_name(rule, name, unfit):
            return False
    return True


def path_text(path):
    """The text of a path."""
    return "/".join(path)


def read_path(text):
    """The path with this text, or None."""
    if text == "":
        return ()
    parts = text.split("/")
    for part in parts:
        if not is_name(part):
            return None
    return tuple(parts)
