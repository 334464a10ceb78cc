"""The desk: lines of words answered by lines."""

from outgrow.bounds import FIGURES, MOST_WRITTEN_FIGURES
from outgrow.errors import Refused
from outgrow.shelf import Shelf
from outgrow.tables import growth_text, sums_text

DONE = "done"
WHAT = "what"


class Desk:
    """Answers lines by a shelf: the very one that is handed in, else one of its own."""

    def __init__(self, *, shelf=None):
        self.shelf = Shelf() if shelf is None else shelf

    def say(self, line):
        handed = handed_of(line)
        if handed is None:
            return WHAT
        word, *rest = handed
        answer = ANSWERS[word]
        try:
            return answer(self.shelf, *rest)
        except Refused as refusal:
            return f"no {refusal.word}"


def handed_of(line):
    """A list of a line's first word and what is handed with it; None where the line has no form that is told."""
    words = line.split(" ")
    if "" in words or words[0] not in FORMS:
        return None
    kinds = FORMS[words[0]]
    if kinds[-1:] == ("TEXT",):
        words = line.split(" ", len(kinds))
    rest = words[1:]
    if len(rest) != len(kinds):
        return None
    for kind, word in zip(kinds, rest):
        if kind == "SIZE" and not is_size(word):
            return None
    return words


def is_size(word):
    """Whether a word is a size of at most thirty figures without a needless nought."""
    if len(word) > MOST_WRITTEN_FIGURES or not all([sign in FIGURES for sign in word]):
        return False
    return word == "0" or word[0] != "0"


def listed(words):
    return " ".join(words) if words else "none"


def pair_text(pair):
    """A word and a number as they are written."""
    word, number = pair
    return f"{word} {number}"


def put_answer(shelf, name, text):
    shelf.put(name, text)
    return DONE


def alter_answer(shelf, name, text):
    shelf.alter(name, text)
    return DONE


def drop_answer(shelf, name):
    shelf.drop(name)
    return DONE


def watch_answer(shelf, label, one, other):
    shelf.watch(label, one, other)
    return DONE


def unwatch_answer(shelf, label):
    shelf.unwatch(label)
    return DONE


def undo_answer(shelf):
    shelf.undo()
    return DONE


def redo_answer(shelf):
    shelf.redo()
    return DONE


def names_answer(shelf):
    return listed(shelf.names())


def labels_answer(shelf):
    return listed(shelf.labels())


def past_answer(shelf):
    return pair_text(shelf.past())


def leans_answer(shelf, name):
    return listed(shelf.leans(name))


def pair_answer(shelf, label):
    return pair_text(shelf.pair(label))


def text_answer(shelf, name):
    return shelf.text(name)


def sums_answer(shelf, name):
    return sums_text(shelf.sums(name))


def growth_answer(shelf, name):
    return growth_text(shelf.growth(name))


def order_answer(shelf, one, other):
    return shelf.order(one, other)


def against_answer(shelf, one, other):
    return pair_text(shelf.against(one, other))


def steps_answer(shelf, name, size):
    return str(shelf.steps(name, int(size)))


def walk_answer(shelf, name, size):
    return str(shelf.walk(name, int(size)))


def news_answer(shelf):
    rows = [f"{label} {pair_text(elder)} {pair_text(newer)}" for label, elder, newer in shelf.news()]
    return " | ".join(rows) if rows else "none"


FORMS = {
    "put": ("NAME", "TEXT"),
    "alter": ("NAME", "TEXT"),
    "drop": ("NAME",),
    "watch": ("LABEL", "ONE", "OTHER"),
    "unwatch": ("LABEL",),
    "undo": (),
    "redo": (),
    "names": (),
    "labels": (),
    "past": (),
    "leans": ("NAME",),
    "pair": ("LABEL",),
    "text": ("NAME",),
    "sums": ("NAME",),
    "growth": ("NAME",),
    "order": ("ONE", "OTHER"),
    "against": ("ONE", "OTHER"),
    "steps": ("NAME", "SIZE"),
    "walk": ("NAME", "SIZE"),
    "news": (),
}

ANSWERS = {
    "put": put_answer,
    "alter": alter_answer,
    "drop": drop_answer,
    "watch": watch_answer,
    "unwatch": unwatch_answer,
    "undo": undo_answer,
    "redo": redo_answer,
    "names": names_answer,
    "labels": labels_answer,
    "past": past_answer,
    "leans": leans_answer,
    "pair": pair_answer,
    "text": text_answer,
    "sums": sums_answer,
    "growth": growth_answer,
    "order": order_answer,
    "against": against_answer,
    "steps": steps_answer,
    "walk": walk_answer,
    "news": news_answer,
}
