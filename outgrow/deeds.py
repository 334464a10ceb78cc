"""The five deeds, each done to a stand that is still a draft: a refused one leaves a draft to throw away."""

from outgrow.bounds import MOST_LABELS, MOST_PLANS, is_name
from outgrow.errors import BadName, Breaks, Full, InUse, NoLabel, NoPlan, Refused, Taken
from outgrow.fits import fit_plan
from outgrow.look import calls_of, look_plan
from outgrow.texts import read_plan


class Stand:
    """How a shelf stands: its plans by names and its watched pairs by labels."""

    def __init__(self, plans, pairs):
        self.plans = plans
        self.pairs = pairs


def draft_of(stand):
    """A stand that is alike and may be changed."""
    return Stand(dict(stand.plans), dict(stand.pairs))


def do_deed(draft, deed):
    """Do a deed, a tuple of its word and what it is handed, to a draft."""
    word, *handed = deed
    do = DEEDS[word]
    do(draft, *handed)


def check_new(name, there, most):
    """Refuse what can not be the name of one more of those that are there."""
    if not is_name(name):
        raise BadName()
    if name in there:
        raise Taken(name)
    if len(there) >= most:
        raise Full()


def check_plan(draft, name):
    if name not in draft.plans:
        raise NoPlan(name)


def do_put(draft, name, text):
    check_new(name, draft.plans, MOST_PLANS)
    place_plan(draft, name, text)


def do_alter(draft, name, text):
    check_plan(draft, name)
    place_plan(draft, name, text)
    for other in sorted(list(draft.plans.keys())):
        if other != name:
            check_unbroken(draft, other)


def place_plan(draft, name, text):
    plan = read_plan(text)
    look_plan(plan)
    draft.plans[name] = plan
    fit_plan(draft.plans, name)


def check_unbroken(draft, name):
    try:
        fit_plan(draft.plans, name)
    except Refused:
        raise Breaks(name) from None


def do_drop(draft, name):
    check_plan(draft, name)
    for other in sorted(list(draft.plans.keys())):
        if name in calls_of(draft.plans[other]):
            raise InUse(other)
    for label in sorted(list(draft.pairs.keys())):
        if name in draft.pairs[label]:
            raise InUse(label)
    del draft.plans[name]


def do_watch(draft, label, one, other):
    check_new(label, draft.pairs, MOST_LABELS)
    check_plan(draft, one)
    check_plan(draft, other)
    draft.pairs[label] = (one, other)


def do_unwatch(draft, label):
    if label not in draft.pairs:
        raise NoLabel(label)
    del draft.pairs[label]


DEEDS = {
    "put": do_put,
    "alter": do_alter,
    "drop": do_drop,
    "watch": do_watch,
    "unwatch": do_unwatch,
}
