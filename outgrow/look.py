"""What a plan shows by itself: whether its names and its `again` stand right, and whom it calls."""

from outgrow.errors import Misplaced, NoName, Twice


def look_plan(plan):
    """None for a good plan; NoName, Twice or Misplaced by the first wrong one in its text."""
    agains = 0
    for thing in plan:
        if thing[0] == "again":
            agains += 1
            look_again(thing, agains)
        else:
            look_thing(thing, ())


def look_again(thing, agains):
    times, word = thing[1:]
    if agains > 1 or (word == "less" and times > 1):
        raise Misplaced()


def look_body(body, around):
    for thing in body:
        look_thing(thing, around)


def look_thing(thing, around):
    """Look at a thing, around being the names of each `for` in whose brackets it stands."""
    look = LOOKS[thing[0]]
    look(thing, around)


def look_end(end, around):
    name = end[0]
    if name not in ("", "n") and name not in around:
        raise NoName(name)


def look_step(thing, around):
    pass


def look_for(thing, around):
    name, first, last, body = thing[1:]
    if name in around:
        raise Twice(name)
    look_end(first, around)
    look_end(last, around)
    look_body(body, (*around, name))


def look_if(thing, around):
    lesser, greater, body, other = thing[1:]
    look_end(lesser, around)
    look_end(greater, around)
    look_body(body, around)
    look_body(other, around)


def look_double(thing, around):
    look_body(thing[1], around)


def look_call(thing, around):
    look_end(thing[2], around)


def refuse_again(thing, around):
    # One outside of all brackets never comes here: look_plan looks at it itself.
    raise Misplaced()


LOOKS = {
    "step": look_step,
    "for": look_for,
    "if": look_if,
    "double": look_double,
    "call": look_call,
    "again": refuse_again,
}


def bodies_of(thing):
    """A list of the bodies that a thing has in brackets, in the order of its text."""
    if thing[0] == "for":
        return [thing[4]]
    if thing[0] == "if":
        return [thing[3], thing[4]]
    if thing[0] == "double":
        return [thing[1]]
    return []


def things_of(body):
    """A list of all things of a body, those in brackets too, in the order of its text."""
    found = []
    for thing in body:
        found.append(thing)
        for inner in bodies_of(thing):
            found.extend(things_of(inner))
    return found


def calls_of(plan):
    """A list of the names that a plan calls, each once, in the order of their first places."""
    found = []
    for thing in things_of(plan):
        if thing[0] == "call" and thing[1] not in found:
            found.append(thing[1])
    return found
