"""The bounds of the program, and what a name is."""

MOST_VISITS = 10000

MOST_LETTERS = 8
MOST_NUMBER_FIGURES = 2
MOST_NUMBER = 99
MOST_AGAIN = 9
MOST_THINGS = 12
MOST_BRACKETS = 4
MOST_SIZE_FIGURES = 2000
MOST_SIZE = 10 ** 30 - 1
MOST_WRITTEN_FIGURES = 30
MOST_PLANS = 12
MOST_LABELS = 12
MOST_WEIGHT = 9
MOST_CHAIN = 4

LETTERS = "abcdefghijklmnopqrstuvwxyz"
FIGURES = "0123456789"

NO_NAMES = (
    "step", "for", "from", "to", "if", "else", "double", "call", "with",
    "again", "on", "halves", "thirds", "less", "n",
)


def is_name(text):
    """Whether a plan, a label or the number of a `for` may be called so."""
    if text in NO_NAMES or not 1 <= len(text) <= MOST_LETTERS:
        return False
    return all([letter in LETTERS for letter in text])
