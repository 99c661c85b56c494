"""News: what devices tell one another of their edits, and how they are taken.

News are a tuple ("news", clock, base, upto, rest, knows, since).
"""

from foldkeep.knowing import clock_in
from foldkeep.lines import fold_lines

MOST_CLOCK = 4294967295


def news_for(knowledge, since):
    """The news for a device that said that it knows edits up to the clocks of `since`."""
    base = tuple(knowledge.base)
    upto = knowledge.upto
    if covers(since, knowledge):
        base = ()
        upto = 0
    rest = [edit for edit in knowledge.rest if edit[1][0] > clock_in(since, edit[1][1])]
    return ("news", knowledge.clock, base, upto, tuple(rest), tuple(knowledge.knows), tuple(since))


def covers(since, knowledge):
    """True if whoever said `since` knows all that the base holds."""
    for device, _ in knowledge.knows:
        if clock_in(since, device) < knowledge.upto:
            return False
    return True


def are_ascending(ids):
    """True if the ids are in strictly ascending order."""
    for before, after in zip(ids, ids[1:]):
        if before >= after:
            return False
    return True


def places_of(edit):
    """The places that an edit names."""
    if edit[0] == "write":
        return [edit[2]]
    if edit[0] == "move":
        return [place for _, _, place in edit[2]]
    return []


def replaced_ids(edit):
    """The ids that an edit replaces."""
    if edit[0] == "write":
        return edit[5]
    if edit[0] == "drop":
        return edit[2]
    return ()


def is_sound(edit):
    """True if the edit's places are not empty and it replaces only what is older."""
    for _, below, seen in places_of(edit):
        if below == () or seen == ():
            return False
    for replaced in replaced_ids(edit):
        if replaced >= edit[1]:
            return False
    return True


def edits_sound(edits):
    """True if the edits are in strictly ascending order and each of them is sound."""
    for edit in edits:
        if not is_sound(edit):
            return False
    return are_ascending([edit[1] for edit in edits])


def heads_differ(lines):
    """True if no two lines have the same head."""
    seen = {}
    for line in lines:
        if line[1] in seen:
            return False
        seen[line[1]] = True
    return True


def stands_soundly(line, folders):
    """True if the line has a path of its own, inside nothing but one of these folder lines."""
    line_id, head, inside, below, content = line
    if below == () or content is None and head != line_id:
        return False
    return inside is None or inside in folders


def all_are_reached(lines):
    """True if each line is reached from the root, so that none stands inside itself at any depth."""
    inside = {}
    for line in lines:
        inside.setdefault(line[2], []).append(line[0])
    waiting = [None]
    reached = 0
    while waiting:
        found = inside.get(waiting.pop(), [])
        reached += len(found)
        waiting.extend(found)
    return reached == len(lines)


def lines_sound(lines):
    """True if the lines can be the lines of edits: in order, each of its own, and standing somewhere."""
    if not are_ascending([line[0] for line in lines]) or not heads_differ(lines):
        return False
    folders = {line[0]: True for line in lines if line[4] is None}
    for line in lines:
        if not stands_soundly(line, folders):
            return False
    return all_are_reached(lines)


def base_is_sound(base, upto):
    """True if the base of news is sound."""
    for line in base:
        if line[0][0] > upto or line[1][0] > upto:
            return False
    return lines_sound(base)


def rest_is_sound(rest, upto, knows):
    """True if the edits of news are sound."""
    for edit in rest:
        clock, device = edit[1]
        if clock <= upto or clock > clock_in(knows, device):
            return False
    return edits_sound(rest)


def clocks_are_sound(clock, upto, knows):
    """True if the clocks of news agree with one another and are not too great."""
    for _, known in knows:
        if known < upto or known > clock:
            return False
    return clock <= MOST_CLOCK


def can_hear(knowledge, me, news):
    """False if the device refuses the news."""
    _, clock, base, upto, rest, knows, since = news
    if [device for device, _ in knows] != [device for device, _ in knowledge.knows]:
        return False
    if clock_in(knows, me) > knowledge.known_up_to(me):
        return False
    for device, known in since:
        if known > knowledge.known_up_to(device):
            return False
    if not clocks_are_sound(clock, upto, knows):
        return False
    return base_is_sound(base, upto) and rest_is_sound(rest, upto, knows)


def joined_edits(own, others, upto):
    """The edits of both with a greater clock, in ascending order; of two with one id, the own one."""
    found = {}
    for edit in [*others, *own]:
        if edit[1][0] > upto:
            found[edit[1]] = edit
    return [found[edit_id] for edit_id in sorted(found)]


def joined_clocks(own, others, me, clock):
    """The greater clock for each device, and this clock for the own one."""
    joined = []
    for device, known in own:
        if device == me:
            joined.append((device, clock))
        else:
            joined.append((device, max(known, clock_in(others, device))))
    return joined


def hear_news(knowledge, me, news):
    """Takes the news in, unless the device refuses them; tells whether it took them."""
    if not can_hear(knowledge, me, news):
        return False
    _, clock, base, upto, rest, knows, _ = news
    if upto > knowledge.upto:
        knowledge.base = list(base)
        knowledge.upto = upto
    knowledge.rest = joined_edits(knowledge.rest, rest, knowledge.upto)
    knowledge.clock = max(knowledge.clock, clock)
    # The device promises that its own further edits have greater clocks than this one.
    knowledge.knows = joined_clocks(knowledge.knows, knows, me, knowledge.clock)
    return True


def forget(knowledge):
    """Forgets up to the least clock up to which the edits of all devices are known."""
    forget_up_to(knowledge, min([clock for _, clock in knowledge.knows], default=0))


def forget_up_to(knowledge, clock):
    """Applies the edits up to this clock to the base, and keeps them no longer as edits."""
    old = [edit for edit in knowledge.rest if edit[1][0] <= clock]
    knowledge.base = fold_lines(knowledge.base, old)
    knowledge.rest = [edit for edit in knowledge.rest if edit[1][0] > clock]
    knowledge.upto = max(knowledge.upto, clock)
