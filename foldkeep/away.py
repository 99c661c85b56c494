"""Files that are put away: their texts are held by other devices, and they are not wanted in the folder here."""

from foldkeep.errors import NotNow
from foldkeep.expected import expect, mark_of_head
from foldkeep.holding import is_held
from foldkeep.shown import shown_tree
from foldkeep.state import file_at
from foldkeep.wanted import heads_known, wanted_at


def is_away(state, head):
    """True if the head is put away."""
    for known, _, _ in state.away:
        if known == head:
            return True
    return False


def is_here(state, head):
    """True if the text of the head is here, where it can be used."""
    content = mark_of_head(state, head)
    if state.pending is not None or content is None:
        return False
    for entry in state.shelf:
        if entry.purpose[0] == "kept" and not is_held(state, entry.place):
            was = entry.purpose[1]
            if was.content == content and head in was.ids:
                return True
    return False


def see_to_away(state):
    """Sees to what is put away."""
    heads = heads_known(state)
    # What is removed from `holding` below does not make a text be here yet.
    here = {head: True for head in state.fetching if is_here(state, head)}
    state.asking = [entry for entry in state.asking if entry[0] in heads]
    state.holding = [entry for entry in state.holding if entry[2] in heads]
    state.away = [entry for entry in state.away if entry[0] in heads and entry[0] not in here]
    state.fetching = [head for head in state.fetching if is_away(state, head)]
    for head in state.fetching:
        if heads[head] is not None:
            expect(state, head, heads[head])


def wish_put_away(state, path, holder):
    """Asks another device to hold the text of the file at a path."""
    item = file_at(state.placed, path)
    if holder == state.me or holder not in state.devices or item is None:
        raise NotNow("there is no such file, or no such other device")
    heads = heads_known(state)
    asked = [head for head, _, _ in state.asking]
    chosen = [head for head in item.ids if head in heads and head not in asked and not is_away(state, head)]
    if chosen == []:
        raise NotNow("nothing is left to be put away there")
    for head in chosen:
        state.asking.append((head, state.next_number, holder))
        state.next_number += 1


def wish_fetch(state, path):
    """Wishes what is put away at a path back, or takes the wish to put it away back."""
    entry = wanted_at(shown_tree(state.rule, state.taken, state.know.lines()), path)
    if entry is None:
        raise NotNow("nothing is shown at the path")
    ids = entry[3]
    left = [asked for asked in state.asking if asked[0] not in ids]
    if left != state.asking:
        state.asking = left
        return
    away = [head for head in ids if is_away(state, head)]
    if away == []:
        raise NotNow("nothing is put away at the path")
    state.fetching.extend([head for head in away if head not in state.fetching])
    see_to_away(state)
