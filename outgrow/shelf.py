"""The shelf: plans by names and watched pairs of them, edited, taken back and done again, and asked."""

from outgrow.bounds import MOST_SIZE, MOST_VISITS
from outgrow.counts import plan_sums
from outgrow.deeds import Stand, check_plan, do_deed, draft_of
from outgrow.errors import BadNumber, Far, NoLabel, NotPlain, NothingLeft, Refused, Stopped
from outgrow.fits import is_plain, leans_of
from outgrow.look import calls_of
from outgrow.measures import growth_of, steps_at
from outgrow.tables import compared, greater_growth, shown
from outgrow.texts import plan_text
from outgrow.walks import walked

ORDER_WORDS = ("less", "alike", "more")


class Shelf:
    """Plans and watched pairs; worked is how often the sums of a plan were worked out."""

    def __init__(self):
        # A stand is never changed once it stands here, so twins, undo and redo share them.
        self.stand = Stand({}, {})
        self.elder = []
        self.undone = []
        # What each pair came to when it began to be watched or was told last, by labels.
        self.told = {}
        # By names: the plans on which the sums hang, as they stood, and the sums.
        self.known = {}
        self.worked = 0

    def __eq__(self, other):
        return isinstance(other, Shelf) and stands_alike(self.stand, other.stand)

    def __len__(self):
        return len(self.stand.plans)

    def __repr__(self):
        return f"Shelf({len(self.stand.plans)} plans, {len(self.stand.pairs)} watched)"

    def put(self, name, text):
        self.do(("put", name, text))

    def alter(self, name, text):
        self.do(("alter", name, text))

    def drop(self, name):
        self.do(("drop", name))

    def watch(self, label, one, other):
        self.do(("watch", label, one, other))

    def unwatch(self, label):
        self.do(("unwatch", label))

    def do(self, deed):
        draft = draft_of(self.stand)
        do_deed(draft, deed)
        self.keep(draft)

    def together(self, deeds):
        """Do all of these deeds as one, or none of them; Stopped."""
        draft = draft_of(self.stand)
        for at, deed in enumerate(deeds):
            try:
                do_deed(draft, deed)
            except Refused as refusal:
                raise Stopped(at, refusal.word) from None
        if deeds:
            self.keep(draft)

    def keep(self, draft):
        """Stand as a new deed leaves it."""
        self.elder.append(self.stand)
        self.undone.clear()
        self.stand_as(draft)

    def undo(self):
        if not self.elder:
            raise NothingLeft()
        self.undone.append(self.stand)
        self.stand_as(self.elder.pop())

    def redo(self):
        if not self.undone:
            raise NothingLeft()
        self.elder.append(self.stand)
        self.stand_as(self.undone.pop())

    def stand_as(self, stand):
        """Stand so from now on; what is watched now by a label that had not this pair begins to be watched."""
        ahead = self.stand.pairs
        self.stand = stand
        told = {}
        for label in self.labels():
            pair = stand.pairs[label]
            told[label] = self.told[label] if ahead.get(label) == pair else self.comes_to(pair)
        self.told = told

    def past(self):
        return (len(self.elder), len(self.undone))

    def twin(self):
        """A shelf that stands alike in all."""
        other = Shelf()
        other.stand = self.stand
        other.elder = list(self.elder)
        other.undone = list(self.undone)
        other.told = dict(self.told)
        other.known = dict(self.known)
        other.worked = self.worked
        return other

    def names(self):
        return sorted(list(self.stand.plans.keys()))

    def labels(self):
        return sorted(list(self.stand.pairs.keys()))

    def text(self, name):
        return plan_text(self.plan_of(name))

    def pair(self, label):
        if label not in self.stand.pairs:
            raise NoLabel(label)
        return self.stand.pairs[label]

    def leans(self, name):
        check_plan(self.stand, name)
        return leans_of(self.stand.plans, name)

    def plan_of(self, name):
        check_plan(self.stand, name)
        return self.stand.plans[name]

    def sums(self, name):
        check_plan(self.stand, name)
        return [(since, list(terms)) for since, terms in self.needed(name)]

    def needed(self, name):
        """The sums of a plan, worked out where it stands otherwise than when that was done last."""
        plans = self.stand.plans
        hangs_on = {other: plans[other] for other in [name] + leans_of(plans, name)}
        if name not in self.known or self.known[name][0] != hangs_on:
            called = {other: self.needed(other) for other in calls_of(plans[name])}
            self.known[name] = (hangs_on, plan_sums(plans[name], called))
            self.worked += 1
        return self.known[name][1]

    def steps(self, name, size):
        plan = self.plan_of(name)
        check_size(size)
        return steps_at(plan, self.needed(name), size)

    def walk(self, name, size, *, most=MOST_VISITS):
        check_plan(self.stand, name)
        check_size(size)
        return walked(self.stand.plans, name, size, most=most)

    def growth(self, name):
        return growth_of(name, self.plan_of(name), self.needed(name))

    def order(self, one, other):
        check_plan(self.stand, one)
        check_plan(self.stand, other)
        first = self.growth(one)
        return ORDER_WORDS[1 + greater_growth(first, self.growth(other))]

    def against(self, one, other):
        first, second = self.plain_sums(one, other)
        return compared(first, second)

    def paper(self, one, other):
        first, second = self.plain_sums(one, other)
        return shown(first, second)

    def plain_sums(self, one, other):
        """The sums of two plans; NoPlan, NotPlain."""
        check_plan(self.stand, one)
        check_plan(self.stand, other)
        for name in (one, other):
            if not is_plain(self.stand.plans[name]):
                raise NotPlain(name)
        first = self.needed(one)
        return first, self.needed(other)

    def comes_to(self, pair):
        """What a watched pair comes to: as against tells, or by the word of its refusal."""
        one, other = pair
        try:
            return self.against(one, other)
        except (NotPlain, Far) as refusal:
            return (refusal.word, 0)

    def news(self):
        """A list of (label, elder, newer) of all pairs that come to something else than was told last."""
        found = []
        for label in self.labels():
            elder = self.told[label]
            newer = self.comes_to(self.stand.pairs[label])
            if newer != elder:
                self.told[label] = newer
                found.append((label, elder, newer))
        return found


def shelf_of(stand):
    """A shelf that stands so, with nothing to take back."""
    shelf = Shelf()
    shelf.stand_as(stand)
    return shelf


def stands_alike(one, other):
    return one.plans == other.plans and one.pairs == other.pairs


def check_size(size):
    if not isinstance(size, int) or isinstance(size, bool) or not 0 <= size <= MOST_SIZE:
        raise BadNumber()
