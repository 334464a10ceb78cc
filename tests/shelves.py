"""Shelves for the tests, and the document's words on them once more: a slow shelf to hold the shelf against."""

import time

from outgrow import errors
from outgrow.bounds import is_name
from outgrow.errors import Refused
from outgrow.look import look_plan
from outgrow.pages import page
from outgrow.shelf import Shelf
from outgrow.tables import compared
from outgrow.texts import plan_text, read_plan


def filled(texts, pairs=()):
    """A shelf with plans, put in the order of the dict, and with watched pairs (label, one, other)."""
    shelf = Shelf()
    for name in texts:
        shelf.put(name, texts[name])
    for label, one, other in pairs:
        shelf.watch(label, one, other)
    return shelf


def standing(shelf):
    """All that is told of a shelf without working anything out there."""
    twin = shelf.twin()
    news = twin.news()
    steps = []
    while twin.past()[0]:
        twin.undo()
        steps.append(page(twin))
    twin = shelf.twin()
    while twin.past()[1]:
        twin.redo()
        steps.append(page(twin))
    return page(shelf), shelf.past(), shelf.worked, news, steps, repr(shelf), len(shelf)


def outcome(ask):
    """("told", what) or (the refusal's word, its fields)."""
    try:
        return "told", ask()
    except Refused as error:
        fields = {key: value for key, value in vars(error).items() if key != "word"}
        assert type(error) is getattr(errors, error.word)
        return error.word, fields


def refused(case, shelf, ask, word, worked=0, **fields):
    """The test case fails unless the shelf refuses so, and stands as it did."""
    before = standing(shelf)
    case.assertEqual(outcome(ask), (word, fields))
    behind = standing(shelf)
    case.assertEqual(before[:2] + before[3:], behind[:2] + behind[3:])
    case.assertEqual(behind[2] - before[2], worked)


def quick(case, ask):
    """What is told, within a second."""
    began = time.process_time()
    told = ask()
    case.assertLess(time.process_time() - began, 1)
    return told


# [8] once more.

def things(body):
    for thing in body:
        yield thing
        for inner in thing:
            if isinstance(inner, tuple) and inner and isinstance(inner[0], tuple):
                yield from things(inner)


def calls(plan):
    return [thing for thing in things(plan) if thing[0] == "call"]


def again(plan):
    return ([thing[2] for thing in plan if thing[0] == "again"] + [None])[0]


def reached(plans, name):
    found, waiting = set(), [name]
    while waiting:
        more = {thing[1] for thing in calls(plans[waiting.pop()])} - found
        found |= more
        waiting.extend(more)
    return found


def figures(plans, name):
    plan = plans[name]
    return any(thing[0] == "double" for thing in things(plan)) or any(
        figures(plans, thing[1]) for thing in calls(plan) if thing[2] == ("n", 0))


def weight(plans, name):
    def of_body(body):
        return max([0] + [of_thing(thing) for thing in body])

    def of_thing(thing):
        if thing[0] in ("step", "again"):
            return 0
        if thing[0] == "call":
            return weight(plans, thing[1])
        if thing[0] == "if":
            return max(of_body(thing[3]), of_body(thing[4]))
        return 1 + of_body(thing[-1])
    return of_body(plans[name]) + (again(plans[name]) == "less")


def chain(plans, name):
    return 1 + max([0] + [chain(plans, thing[1]) for thing in calls(plans[name])])


def unfit(plans, name):
    """None, or (word, fields) by which a plan can not stand among the plans."""
    plan = plans[name]
    for thing in calls(plan):
        if thing[1] not in plans:
            return "NoPlan", {"name": thing[1]}
    if name in reached(plans, name):
        return "Ring", {"name": name}
    for thing in calls(plan):
        if again(plans[thing[1]]) in ("halves", "thirds"):
            return "NotPlain", {"name": thing[1]}
    if figures(plans, name) and again(plan) == "less":
        return "Tangled", {"name": name}
    for thing in calls(plan):
        if figures(plans, thing[1]) and thing[2] != ("n", 0) and thing[2][0]:
            return "Tangled", {"name": thing[1]}
    if weight(plans, name) > 9 or chain(plans, name) > 4:
        return "Heavy", {}
    return None


def read(text):
    """A plan, or (word, fields)."""
    try:
        plan = read_plan(text)
        look_plan(plan)
        return plan, None
    except Refused as error:
        return None, (error.word, {key: value for key, value in vars(error).items() if key != "word"})


class Slow:
    """[15] to [19] once more, word by word."""

    def __init__(self):
        self.plans, self.pairs = {}, {}
        self.back, self.ahead = [], []
        self.told, self.known, self.worked = {}, {}, 0

    def twin(self):
        other = Slow()
        other.plans, other.pairs = dict(self.plans), dict(self.pairs)
        other.back, other.ahead = list(self.back), list(self.ahead)
        other.told, other.known, other.worked = dict(self.told), dict(self.known), self.worked
        return other

    def fits(self, plans, pairs, deed):
        """(plans, pairs) behind a deed, or (None, (word, fields))."""
        plans, pairs = dict(plans), dict(pairs)
        wrong = getattr(self, "do_" + deed[0])(plans, pairs, *deed[1:])
        return (None, wrong) if wrong else ((plans, pairs), None)

    def do_put(self, plans, pairs, name, text):
        if not is_name(name):
            return "BadName", {}
        if name in plans:
            return "Taken", {"name": name}
        if len(plans) == 12:
            return "Full", {}
        return self.set(plans, name, text)

    def set(self, plans, name, text):
        plan, wrong = read(text)
        if wrong:
            return wrong
        plans[name] = plan
        return unfit(plans, name)

    def do_alter(self, plans, pairs, name, text):
        if name not in plans:
            return "NoPlan", {"name": name}
        wrong = self.set(plans, name, text)
        broken = [] if wrong else [other for other in sorted(plans) if other != name and unfit(plans, other)]
        return wrong or (("Breaks", {"name": broken[0]}) if broken else None)

    def do_drop(self, plans, pairs, name):
        if name not in plans:
            return "NoPlan", {"name": name}
        users = [other for other in sorted(plans) if name in [thing[1] for thing in calls(plans[other])]]
        users += [label for label in sorted(pairs) if name in pairs[label]]
        if users:
            return "InUse", {"name": users[0]}
        del plans[name]

    def do_watch(self, plans, pairs, label, one, other):
        if not is_name(label):
            return "BadName", {}
        if label in pairs:
            return "Taken", {"name": label}
        if len(pairs) == 12:
            return "Full", {}
        for name in (one, other):
            if name not in plans:
                return "NoPlan", {"name": name}
        pairs[label] = (one, other)

    def do_unwatch(self, plans, pairs, label):
        if label not in pairs:
            return "NoLabel", {"name": label}
        del pairs[label]

    def deed(self, *deed):
        behind, wrong = self.fits(self.plans, self.pairs, deed)
        return wrong or self.new(behind)

    def together(self, deeds):
        behind = (self.plans, self.pairs)
        for at, deed in enumerate(deeds):
            behind, wrong = self.fits(*behind, deed)
            if wrong:
                return "Stopped", {"at": at, "kind": wrong[0]}
        return self.new(behind) if deeds else ("told", None)

    def new(self, behind):
        self.back.append((self.plans, self.pairs))
        self.ahead = []
        return self.stand(behind)

    def stand(self, behind):
        before = self.pairs
        self.plans, self.pairs = behind
        self.told = {label: self.told[label] if before.get(label) == pair else self.comes_to(pair)
                     for label, pair in self.pairs.items()}
        return "told", None

    def undo(self):
        if not self.back:
            return "NothingLeft", {}
        self.ahead.append((self.plans, self.pairs))
        return self.stand(self.back.pop())

    def redo(self):
        if not self.ahead:
            return "NothingLeft", {}
        self.back.append((self.plans, self.pairs))
        return self.stand(self.ahead.pop())

    def need(self, name):
        hangs = {other: self.plans[other] for other in {name} | reached(self.plans, name)}
        if self.known.get(name) != hangs:
            for thing in calls(self.plans[name]):
                self.need(thing[1])
            self.known[name] = hangs
            self.worked += 1

    def fresh(self, *names):
        """A new shelf of just these plans and those that they call."""
        wanted = set(names).union(*[reached(self.plans, name) for name in names])
        order = sorted(wanted, key=lambda name: chain(self.plans, name))
        return filled({name: plan_text(self.plans[name]) for name in order})

    def comes_to(self, pair):
        for name in pair:
            if again(self.plans[name]) in ("halves", "thirds"):
                return "NotPlain", 0
        for name in pair:
            self.need(name)
        shelf = self.fresh(*pair)
        try:
            return compared(shelf.sums(pair[0]), shelf.sums(pair[1]))
        except errors.Far:
            return "Far", 0

    def news(self):
        rows = []
        for label in sorted(self.pairs):
            newer = self.comes_to(self.pairs[label])
            if newer != self.told[label]:
                rows.append((label, self.told[label], newer))
                self.told[label] = newer
        return rows

    def page(self):
        rows = [f"plan {name} {plan_text(self.plans[name])}\n"
                for name in sorted(self.plans, key=lambda name: (chain(self.plans, name), name))]
        rows += [f"watch {label} {one} {other}\n" for label, (one, other) in sorted(self.pairs.items())]
        return "".join(rows)
