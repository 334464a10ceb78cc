"""What a plan's sums tell of the whole plan, with all that it does again on halves or thirds."""

from outgrow.errors import Uneven
from outgrow.fits import is_plain
from outgrow.tables import growth, worth
from outgrow.walks import again_of, lesser_size

BASES = {"halves": 2, "thirds": 3}


def steps_at(plan, sums, size):
    """The steps of a plan with these sums at a size."""
    total = worth(sums, size)[0]
    if is_plain(plan):
        return total
    many, word = again_of(plan)[1:]
    times = 1
    while size > 0:
        size = lesser_size(size, word)
        times *= many
        total += times * worth(sums, size)[0]
    return total


def growth_of(name, plan, sums):
    """The growth of the plan of this name with these sums, or None; Uneven."""
    if is_plain(plan):
        return growth(sums)
    many, word = again_of(plan)[1:]
    try:
        return growth(sums, many=many, base=BASES[word])
    except Uneven:
        raise Uneven(name) from None
