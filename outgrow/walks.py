"""Plans walked thing by thing, with each visit counted."""

from outgrow.bounds import MOST_VISITS
from outgrow.errors import Weary


class Walk:
    """One walk: the plans that may be called in it, and how many visits are left."""

    def __init__(self, plans, most):
        self.plans = plans
        self.left = most

    def visit(self):
        if self.left < 1:
            raise Weary()
        self.left -= 1


def walked(plans, name, size, *, most=MOST_VISITS):
    """The steps of a plan at a size; Weary where more visits are wanted than the most."""
    return plan_steps(Walk(plans, most), name, size)


def plan_steps(walk, name, size):
    """The steps of a plan at a size, with those of each lesser size that it goes on to.

    The lesser sizes are gone through one after another, not one within another, for a
    plan that does itself again on less has more of them than calls can stand in each other.
    """
    plan = walk.plans[name]
    again = again_of(plan)
    total = 0
    times = 1
    while True:
        total += times * body_steps(walk, plan, {"": 0, "n": size})
        if again is None or size == 0:
            return total
        walk.visit()
        times *= again[1]
        size = lesser_size(size, again[2])


def again_of(plan):
    """The `again` of a plan, None where it has none."""
    for thing in plan:
        if thing[0] == "again":
            return thing
    return None


def lesser_size(size, word):
    if word == "less":
        return size - 1
    return size // 2 if word == "halves" else size // 3


def end_value(end, scope):
    # A number alone has the empty name, which stands for 0 in each scope.
    name, number = end
    return scope[name] + number


def body_steps(walk, body, scope):
    """The steps of all things of a body but `again`; scope has the number of each name."""
    total = 0
    for thing in body:
        if thing[0] != "again":
            walk.visit()
            steps_of = STEPS[thing[0]]
            total += steps_of(walk, thing, scope)
    return total


def step_steps(walk, thing, scope):
    return thing[1]


def for_steps(walk, thing, scope):
    name, first, last, body = thing[1:]
    total = 0
    number = end_value(first, scope)
    greatest = end_value(last, scope)
    while number <= greatest:
        walk.visit()
        total += body_steps(walk, body, {**scope, name: number})
        number += 1
    return total


def if_steps(walk, thing, scope):
    lesser, greater, body, other = thing[1:]
    holds = end_value(lesser, scope) <= end_value(greater, scope)
    return body_steps(walk, body if holds else other, scope)


def double_steps(walk, thing, scope):
    total = 0
    for turn in range(scope["n"].bit_length()):
        walk.visit()
        total += body_steps(walk, thing[1], scope)
    return total


def call_steps(walk, thing, scope):
    return plan_steps(walk, thing[1], max(0, end_value(thing[2], scope)))


STEPS = {
    "step": step_steps,
    "for": for_steps,
    "if": if_steps,
    "double": double_steps,
    "call": call_steps,
}
