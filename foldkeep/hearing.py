"""How a keeper takes the answers of its host and the words of other devices, and what it says then."""

from foldkeep.ending import end_scan
from foldkeep.holding import hear_free, hear_held, hear_hold
from foldkeep.looking import look
from foldkeep.news import forget, hear_news
from foldkeep.otherwise import read_found
from foldkeep.scanning import answer_to_scan
from foldkeep.serving import hear_ask, hear_piece, served


def take_answer(state, answer):
    """Takes an answer; returns the pairs (receiver, word) that are said then."""
    kind = state.stage[0]
    told = answer[0]
    if kind == "serving":
        return served(state, answer)
    if kind == "scan":
        take_scan_answer(state, answer)
    elif kind == "look" and told == "shelf":
        look(state, answer[1])
    elif kind == "asking" and told == "was_read":
        # A host that does not tell may have let programs read it.
        state.stage = ("reading", state.stage[1], answer[1] is not False)
    elif kind == "reading" and told == "text":
        _, place, was_read = state.stage
        read_found(state, place, was_read, answer)
    return []


def take_scan_answer(state, answer):
    """Takes an answer for the scan, which may be over then."""
    scan = state.scan
    if not answer_to_scan(state, scan, answer):
        state.stage = ("idle",)
        state.scan = None
    elif scan.phase == "end":
        end_scan(state, scan)


def hear_word(state, sender, word):
    """Hears a word of another device; returns the pairs (receiver, word) that are said then."""
    kind = word[0]
    if kind == "news":
        hear_what_is_known(state, sender, word)
    elif kind == "ask":
        _, head, start = word
        hear_ask(state, sender, head, start)
    elif kind == "piece":
        _, head, start, text = word
        hear_piece(state, head, start, text)
    elif kind == "hold":
        _, number, head = word
        hear_hold(state, sender, number, head)
    elif kind == "held":
        return hear_held(state, sender, word[1])
    elif kind == "free":
        hear_free(state, sender, word[1])
    return []


def hear_what_is_known(state, sender, news):
    """Hears news, and notes what the sender said that it knows, even if the news are refused."""
    if hear_news(state.know, state.me, news):
        forget(state.know)
    others = [pair for pair in state.heard if pair[0] != sender]
    state.heard = [*others, (sender, news[5])]
