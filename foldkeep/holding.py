"""Holding texts for other devices, and what devices say to one another of it.

What is held is a list of tuples (device, number, head, place).
"""

from foldkeep.expected import coming_entry, expect, mark_of_head
from foldkeep.state import shelved_at
from foldkeep.wanted import is_reserved


def holds_now(state, entry):
    """True if the text of an entry of `holding` lies whole on the shelf."""
    _, _, head, place = entry
    lying = shelved_at(state.shelf, place)
    if lying is None or lying.purpose[0] != "kept":
        return False
    content = mark_of_head(state, head)
    return content is not None and lying.purpose[1].content == content


def is_held(state, place):
    """True if the place is held for another device."""
    return is_reserved(state, place)


def held_place(state, head):
    """The place of the first entry of `holding` with this head, or None."""
    for _, _, known, place in state.holding:
        if known == head:
            return place
    return None


def is_known(state, device, number):
    """True if a text is held for this device under this number."""
    for owner, known, _, _ in state.holding:
        if owner == device and known == number:
            return True
    return False


def hear_hold(state, device, number, head):
    """Hears that a device asks this one to hold the text of a head."""
    content = mark_of_head(state, head)
    if content is None or is_known(state, device, number):
        return
    place = held_place(state, head)
    if place is None:
        expect(state, head, content)
        place = coming_entry(state, head).place
    state.holding.append((device, number, head, place))


def head_with(entries, number, holder):
    """The head of the first of these tuples (head, number, holder) with this number and holder, or None."""
    for head, known, name in entries:
        if known == number and name == holder:
            return head
    return None


def hear_held(state, device, number):
    """Hears that a device holds a text; returns the pairs (device, word) that are said then."""
    if head_with(state.away, number, device) is not None:
        return []
    head = head_with(state.asking, number, device)
    if head is not None:
        state.asking = [entry for entry in state.asking if entry[1] != number]
        if state.know.is_head(head):
            state.away.append((head, number, device))
            return []
    elif number >= state.next_number:
        return []
    return [(device, ("free", number))]


def hear_free(state, device, number):
    """Hears that a text need not be held any more."""
    state.holding = [entry for entry in state.holding if entry[:2] != (device, number)]


def say_away(state, device):
    """The words for a device on what it is asked to hold, and on what is held for it."""
    words = [("hold", number, head) for head, number, holder in state.asking if holder == device]
    for entry in state.holding:
        if entry[0] == device and holds_now(state, entry):
            words.append(("held", entry[1]))
    return words
