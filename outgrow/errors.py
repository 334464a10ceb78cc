"""The refusals: one class for each kind, all of them under Refused."""


class Refused(ValueError):
    """What is asked or handed in is refused; word is the name of the refusal's class."""

    def __init__(self, word="Refused", why=""):
        ValueError.__init__(self, f"{word} {why}".strip())
        self.word = word


class Misread(Refused):
    """What is handed in has not the form that is wanted."""

    def __init__(self, word="Misread", why=""):
        Refused.__init__(self, word, why)


class Unfit(Refused):
    """What is handed in has its form, but does not fit what is there."""

    def __init__(self, word="Unfit", why=""):
        Refused.__init__(self, word, why)


class BadText(Misread):
    """A text is no plan; at is the place of the first wrong sign."""

    def __init__(self, at):
        Misread.__init__(self, "BadText", f"at {at}")
        self.at = at


class BadPage(Misread):
    """A text is no page; at is the number of the first wrong row."""

    def __init__(self, at):
        Misread.__init__(self, "BadPage", f"at {at}")
        self.at = at


class BadName(Misread):
    """A name or label is none."""

    def __init__(self):
        Misread.__init__(self, "BadName")


class BadNumber(Misread):
    """A size is none."""

    def __init__(self):
        Misread.__init__(self, "BadNumber")


class NoName(Unfit):
    """An end has a name that no `for` around it is called."""

    def __init__(self, name):
        Unfit.__init__(self, "NoName", name)
        self.name = name


class Twice(Unfit):
    """A `for` is called like one around it."""

    def __init__(self, name):
        Unfit.__init__(self, "Twice", name)
        self.name = name


class NoPlan(Unfit):
    """No plan is called so."""

    def __init__(self, name):
        Unfit.__init__(self, "NoPlan", name)
        self.name = name


class NoLabel(Unfit):
    """No pair is watched by this label."""

    def __init__(self, name):
        Unfit.__init__(self, "NoLabel", name)
        self.name = name


class Taken(Unfit):
    """The name or label is in use already."""

    def __init__(self, name):
        Unfit.__init__(self, "Taken", name)
        self.name = name


class Ring(Unfit):
    """The plan would come to call itself."""

    def __init__(self, name):
        Unfit.__init__(self, "Ring", name)
        self.name = name


class NotPlain(Unfit):
    """The plan does itself again on halves or thirds."""

    def __init__(self, name):
        Unfit.__init__(self, "NotPlain", name)
        self.name = name


class Tangled(Unfit):
    """Figures stand in the plan where its size is another one than n."""

    def __init__(self, name):
        Unfit.__init__(self, "Tangled", name)
        self.name = name


class Breaks(Unfit):
    """Another plan could not stand any more."""

    def __init__(self, name):
        Unfit.__init__(self, "Breaks", name)
        self.name = name


class InUse(Unfit):
    """A plan or a label still needs what is to go."""

    def __init__(self, name):
        Unfit.__init__(self, "InUse", name)
        self.name = name


class Uneven(Unfit):
    """The plan has no growth, for its count stays uneven."""

    def __init__(self, name):
        Unfit.__init__(self, "Uneven", name)
        self.name = name


class Misplaced(Unfit):
    """An `again` stands where none may stand."""

    def __init__(self):
        Unfit.__init__(self, "Misplaced")


class Full(Unfit):
    """No more plans or labels find room."""

    def __init__(self):
        Unfit.__init__(self, "Full")


class Heavy(Unfit):
    """The plan weighs too much, or calls through too many others."""

    def __init__(self):
        Unfit.__init__(self, "Heavy")


class Far(Unfit):
    """The size that is asked for has too many figures."""

    def __init__(self):
        Unfit.__init__(self, "Far")


class Weary(Unfit):
    """The walk wants more visits than it may have."""

    def __init__(self):
        Unfit.__init__(self, "Weary")


class NothingLeft(Unfit):
    """There is nothing to take back or to do again."""

    def __init__(self):
        Unfit.__init__(self, "NothingLeft")


class Stopped(Unfit):
    """One of several deeds is refused: at is its place, kind the word of its refusal."""

    def __init__(self, at, kind):
        Unfit.__init__(self, "Stopped", f"at {at} by {kind}")
        self.at = at
        self.kind = kind
