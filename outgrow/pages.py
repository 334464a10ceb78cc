"""Shelves written as pages and read from them."""

from outgrow.deeds import Stand, do_deed
from outgrow.errors import BadPage, Refused
from outgrow.fits import chain_of
from outgrow.shelf import shelf_of
from outgrow.texts import plan_text


def page(shelf):
    """The text of a shelf, from which read_page reads one that stands alike."""
    stand = shelf.stand
    places = sorted([plan_place(stand, name) for name in stand.plans])
    rows = [plan_row(stand, name) for kind, chain, name in places]
    rows.extend([watch_row(stand, label) for label in shelf.labels()])
    return "".join([row + "\n" for row in rows])


def plan_row(stand, name):
    return f"plan {name} {plan_text(stand.plans[name])}"


def watch_row(stand, label):
    one, other = stand.pairs[label]
    return f"watch {label} {one} {other}"


def plan_place(stand, name):
    """What the row of a plan is ordered by among the rows of a page."""
    return (0, chain_of(stand.plans, name), name)


def read_page(text):
    """The shelf that is written in a text; BadPage where none is."""
    *rows, rest = text.split("\n")
    stand = Stand({}, {})
    ahead = ()
    for at, row in enumerate(rows):
        place = row_place(stand, row, at)
        if place <= ahead:
            raise BadPage(at)
        ahead = place
    if rest != "":
        raise BadPage(len(rows))
    return shelf_of(stand)


def row_place(stand, row, at):
    """Add to the stand what a row tells, and tell what the row is ordered by; BadPage."""
    word, *words = row.split(" ")
    try:
        if word == "plan" and len(words) > 1:
            do_deed(stand, ("put", words[0], " ".join(words[1:])))
            if plan_row(stand, words[0]) == row:
                return plan_place(stand, words[0])
        elif word == "watch" and len(words) == 3:
            do_deed(stand, ("watch", *words))
            return (1, 0, words[0])
    except Refused:
        raise BadPage(at) from None
    raise BadPage(at)
