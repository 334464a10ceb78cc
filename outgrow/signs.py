"""The signs of a text: found all at once, then taken one after another."""

from outgrow.bounds import FIGURES, LETTERS, MOST_LETTERS, MOST_NUMBER_FIGURES, is_name
from outgrow.errors import BadText

SINGLE_SIGNS = "();+-"


def run_end(text, at, kind):
    """Where the run of characters of this kind that begins at a place ends."""
    end = at
    while end < len(text) and text[end] in kind:
        end += 1
    return end


def word_end(text, at):
    end = run_end(text, at, LETTERS)
    if end - at > MOST_LETTERS:
        raise BadText(at)
    return end


def number_end(text, at):
    end = run_end(text, at, FIGURES)
    needless_nought = text[at] == "0" and end - at > 1
    if needless_nought or end - at > MOST_NUMBER_FIGURES:
        raise BadText(at)
    return end


def sign_end(text, at):
    """Where the sign that begins at a place ends; BadText where none begins there."""
    if text[at] in LETTERS:
        return word_end(text, at)
    if text[at] in FIGURES:
        return number_end(text, at)
    if text[at] in SINGLE_SIGNS:
        return at + 1
    if text[at:at + 2] == "<=":
        return at + 2
    raise BadText(at)


def signs_of(text):
    """A list of pairs of each sign of a text and its place."""
    signs = []
    at = 0
    while at < len(text):
        if text[at] == " ":
            at += 1
        else:
            end = sign_end(text, at)
            signs.append((text[at:end], at))
            at = end
    return signs


class Reader:
    """Takes the signs of a text one after another; BadText where one can not stand.

    All signs are found before the first one is taken, since what is no sign at all is
    refused ahead of a sign that stands in a wrong place, wherever it stands.
    """

    def __init__(self, text):
        # The empty sign behind the last one fits nowhere: what lacks is wrong at the text's end.
        self.signs = signs_of(text) + [("", len(text))]
        self.place = 0
        self.things = 0
        self.depth = 0

    def sign(self):
        """The next sign, empty behind the last one."""
        return self.signs[self.place][0]

    def spot(self):
        """The place of the next sign in the text."""
        return self.signs[self.place][1]

    def take_if(self, fits):
        """Take the next sign; BadText where it does not fit."""
        if not fits:
            raise BadText(self.spot())
        sign = self.sign()
        self.place += 1
        return sign

    def take(self, wanted):
        return self.take_if(self.sign() == wanted)

    def take_name(self):
        return self.take_if(is_name(self.sign()))

    def take_number(self, least, most):
        sign = self.sign()
        return int(self.take_if(sign.isdigit() and least <= int(sign) <= most))
