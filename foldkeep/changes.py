"""The next change of a keeper: the operation that brings its folder nearer to what is wanted."""

from foldkeep.copies import numbered_name
from foldkeep.state import placed_at
from foldkeep.telling import is_above, last_name
from foldkeep.wanted import heads_known, lies_at, waits, wanted, wanted_at


def back_target(rule, path, tries):
    """The path to which something that goes back to a path is given after so many tries."""
    if tries == 0:
        return path
    own = last_name(path)
    if tries % 2 == 1:
        return path[:-1] + (numbered_name(rule.longest, own, (tries + 1) // 2),)
    return (numbered_name(rule.longest, own, tries // 2 - 1),)


def way_back(state, entry):
    """The change that brings an entry of the shelf back to the folder, or None."""
    _, _, path, tries = entry.purpose
    is_late = path in state.late
    if tries == 0 and not is_late:
        item = placed_at(state.placed, path)
        if item is not None and item.content is not None and not item.seen:
            return ("take", path, state.next_place)
    if tries == 0 or not is_late:
        return ("give", entry.place, back_target(state.rule, path, tries))
    return None


def next_way_back(state):
    """The first change that brings something back to the folder, or None."""
    for entry in state.shelf:
        if entry.purpose[0] == "back":
            operation = way_back(state, entry)
            if operation is not None:
                return operation
    return None


class Outlook:
    """What is placed and what is wanted, by path: the first one at each path."""

    def __init__(self, state):
        self.state = state
        self.goals = wanted(state)
        self.heads = heads_known(state)
        # The lists are read backwards, so that the first one at a path is the one that stays in the dict.
        self.goal_at = {goal[0]: goal for goal in self.goals[::-1]}
        self.item_at = {item.path: item for item in state.placed[::-1]}
        self.suited = {(goal[0], goal[2]): True for goal in self.goals}


def is_suited(outlook, item):
    """True if the placed entry suits."""
    return (item.path, item.content) in outlook.suited


def text_of(outlook, goal):
    """The place at which the text of a wanted file lies, or None."""
    return lies_at(outlook.state, outlook.heads, goal[2], goal[3])


def way_out(outlook, path):
    """The change that takes a file that does not suit out of the folder, or None."""
    state = outlook.state
    goal = outlook.goal_at.get(path)
    if goal is None or goal[2] is None:
        return ("take", path, state.next_place)
    place = text_of(outlook, goal)
    if place is None:
        return None
    if state.rule.swaps:
        return ("swap", place, path)
    return ("take", path, state.next_place)


def next_way_out(outlook):
    """The first change that takes a file out of the folder, or None."""
    state = outlook.state
    for item in state.placed:
        if item.content is not None and not is_suited(outlook, item) and not waits(state, item.path):
            operation = way_out(outlook, item.path)
            if operation is not None:
                return operation
    return None


def is_cleared(outlook, path):
    """True if only folders are placed below the path that do not suit and whose paths wait."""
    for item in outlook.state.placed:
        if is_above(path, item.path):
            if item.content is not None or is_suited(outlook, item) or not waits(outlook.state, item.path):
                return False
    return True


def next_removal(outlook):
    """The first change that removes a folder, or None."""
    for item in outlook.state.placed:
        if item.content is None and not is_suited(outlook, item) and not waits(outlook.state, item.path):
            if is_cleared(outlook, item.path):
                return ("remove_folder", item.path)
    return None


def has_folder(outlook, path):
    """True if something can be placed at the path, as its folder is there."""
    if len(path) == 1:
        return True
    above = outlook.item_at.get(path[:-1])
    return above is not None and above.content is None


def next_way_in(outlook):
    """The first change that brings something that is wanted to the folder, or None."""
    for goal in outlook.goals:
        path = goal[0]
        if path not in outlook.item_at and path not in outlook.state.late and has_folder(outlook, path):
            first = outlook.goal_at[path]
            if first[2] is None:
                return ("make_folder", path)
            place = text_of(outlook, first)
            if place is not None:
                return ("give", place, path)
    return None


def next_change(state):
    """The next change, or None."""
    operation = next_way_back(state)
    if operation is not None:
        return operation
    outlook = Outlook(state)
    operation = next_way_out(outlook)
    if operation is None:
        operation = next_removal(outlook)
    if operation is None:
        operation = next_way_in(outlook)
    return operation


def goal_of(state, operation):
    """The names, heads, line and content of what an operation brings to a path of the folder."""
    kind = operation[0]
    if kind not in ("give", "swap", "make_folder"):
        return ((), (), None, None)
    path = operation[1] if kind == "make_folder" else operation[2]
    goal = wanted_at(wanted(state), path)
    if goal is None:
        return (path, (), None, None)
    _, names, content, ids, line = goal
    return (names, ids, line, content)


def ask_for(state, operation):
    """Asks for the operation, which is pending from then on."""
    if operation[0] == "take":
        state.next_place = max(state.next_place, operation[2] + 1)
    if operation[0] == "stage":
        state.next_place = max(state.next_place, operation[1] + 1)
    state.stage = ("look",)
    state.pending = (operation,) + goal_of(state, operation)
