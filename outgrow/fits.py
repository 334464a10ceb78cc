"""Whether a plan can stand among other plans, and what hangs on those that it calls: figures, weight, chain."""

from outgrow.bounds import MOST_CHAIN, MOST_WEIGHT
from outgrow.errors import Heavy, NoPlan, NotPlain, Ring, Tangled
from outgrow.look import bodies_of, calls_of, things_of
from outgrow.walks import again_of


def fit_plan(plans, name):
    """None where the plan of this name can stand among the plans; NoPlan, Ring, NotPlain, Tangled, Heavy."""
    called = calls_of(plans[name])
    for other in called:
        if other not in plans:
            raise NoPlan(other)
    if name in leans_of(plans, name):
        raise Ring(name)
    for other in called:
        if not is_plain(plans[other]):
            raise NotPlain(other)
    check_tangled(plans, name)
    if weight_of(plans, name) > MOST_WEIGHT or chain_of(plans, name) > MOST_CHAIN:
        raise Heavy()


def leans_of(plans, name):
    """A list, rising, of all plans that a plan calls, straight or through others."""
    found = []
    waiting = [name]
    while waiting:
        for other in calls_of(plans[waiting.pop()]):
            if other not in found:
                found.append(other)
                waiting.append(other)
    return sorted(found)


def again_word(plan):
    """On what a plan does itself again: halves, thirds or less; empty where it does not."""
    again = again_of(plan)
    return "" if again is None else again[2]


def is_plain(plan):
    """Whether a plan does not do itself again on halves or thirds."""
    return again_word(plan) not in ("halves", "thirds")


def check_tangled(plans, name):
    if again_word(plans[name]) == "less" and has_figures(plans, name):
        raise Tangled(name)
    for thing in things_of(plans[name]):
        if thing[0] == "call":
            other, end = thing[1:]
            if end != ("n", 0) and end[0] != "" and has_figures(plans, other):
                raise Tangled(other)


def has_figures(plans, name):
    """Whether figures stand in a plan."""
    things = things_of(plans[name])
    if any([thing[0] == "double" for thing in things]):
        return True
    with_size = [thing[1] for thing in things if thing[0] == "call" and thing[2] == ("n", 0)]
    return any([has_figures(plans, other) for other in sorted(set(with_size))])


def weight_of(plans, name):
    plan = plans[name]
    weights = {other: weight_of(plans, other) for other in calls_of(plan)}
    less = 1 if again_word(plan) == "less" else 0
    return body_weight(plan, weights) + less


def body_weight(body, weights):
    """The weight of a body, by the weights of the plans that are called."""
    return max([thing_weight(thing, weights) for thing in body], default=0)


def thing_weight(thing, weights):
    if thing[0] == "call":
        return weights[thing[1]]
    own = 1 if thing[0] in ("for", "double") else 0
    return own + max([body_weight(body, weights) for body in bodies_of(thing)], default=0)


def chain_of(plans, name):
    """How many plans stand in the longest chain of calls from a plan on."""
    return 1 + max([chain_of(plans, other) for other in calls_of(plans[name])], default=0)
