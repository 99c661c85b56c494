"""Patterns of names that are ignored."""


def matches(pattern, name):
    """True if the whole name matches the pattern."""
    parts = pattern.split("*")
    if len(parts) == 1:
        return pattern == name
    first = parts[0]
    last = parts[-1]
    if len(name) < len(first) + len(last):
        return False
    if not name.startswith(first) or not name.endswith(last):
        return False
    return follow_in_order(parts[1:-1], name[len(first):len(name) - len(last)])


def follow_in_order(parts, text):
    """True if the parts follow one another in the text without overlapping."""
    at = 0
    for part in parts:
        # The earliest place leaves the most room, so no other place needs to be tried.
        found = text.find(part, at)
        if found < 0:
            return False
        at = found + len(part)
    return True


def ignored(patterns, name):
    """True if the name matches one of the patterns."""
    for pattern in patterns:
        if matches(pattern, name):
            return True
    return False
