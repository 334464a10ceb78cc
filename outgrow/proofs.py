"""Whether rows that are handed in show that an answer is right, whatever they are built of."""

from outgrow.polynomials import is_endless, is_steady
from outgrow.settling import alike_from
from outgrow.stretches import block_sign, may_be_low, put_in, row_at, row_end, sign_at_size

SIGNS = {"more": 1, "less": -1, "alike": 0}


def proves(stretches, word, size, rows):
    """Whether the rows show that just from this size on the stretches are as the word tells."""
    if word not in SIGNS:
        return False
    sign = SIGNS[word]
    if size > 0 and sign_at_size(stretches, size - 1) == sign:
        return False
    if sign == 0:
        return proves_alike(stretches, size, rows)
    return proves_sign(stretches, sign, size, rows)


def proves_alike(stretches, size, rows):
    if stretches[-1][1] or len(rows) != 1 or not is_triple(rows[0]):
        return False
    kind, low, high = rows[0]
    if kind != "alike" or not is_number(low) or low != size or high is not None:
        return False
    return alike_from(stretches) == size


def proves_sign(stretches, sign, size, rows):
    """Whether the rows go on from the size without a gap and without an end, and each one shows the sign."""
    place = size_place(size)
    for row in rows:
        if not is_formed(row) or row_place(row) != place or not row_shows(stretches, sign, row):
            return False
        place = place_behind(row)
    return place is None


def is_number(thing):
    return isinstance(thing, int) and not isinstance(thing, bool)


def is_triple(row):
    return isinstance(row, tuple) and len(row) == 3


def is_formed(row):
    """Whether a row is one of sizes, of figures or a block, its low no greater than its high."""
    if not is_triple(row):
        return False
    kind, low, high = row
    if not is_number(low):
        return False
    if high is None:
        return kind == "figures"
    if not is_number(high) or not 0 <= low <= high:
        return False
    return kind in ("sizes", "figures") or (kind == "block" and low == high)


def size_place(size):
    """A size as its figures, and how far it is behind the first size of so many figures.

    Places can be compared where the sizes have too many figures to be written out.
    """
    if size == 0:
        return (0, 0)
    figures = size.bit_length()
    return (figures, size - (1 << (figures - 1)))


def row_place(row):
    """The place of the first size of a row."""
    kind, low, high = row
    return size_place(low) if kind == "sizes" else (low, 0)


def place_behind(row):
    """The place of the first size behind a row, None where it has no end."""
    kind, low, high = row
    if high is None:
        return None
    return size_place(high + 1) if kind == "sizes" else (high + 1, 0)


def row_shows(stretches, sign, row):
    """Whether a row that is formed shows the sign for all sizes that it tells of."""
    kind, low, high = row
    if kind == "sizes":
        return sizes_show(stretches, sign, low, high)
    stretch = stretches[-1]
    powers = stretch[1]
    if not powers or not may_be_low(stretch, low):
        return False
    if kind == "block":
        return block_sign(powers, low) == sign
    lead = powers[0][1]
    return is_endless(lead, low, sign) if high is None else is_steady(lead, low, high, sign)


def sizes_show(stretches, sign, low, high):
    place = row_at(stretches, low)
    end = row_end(stretches, place)
    figures = low.bit_length()
    if figures != high.bit_length() or (end is not None and high > end):
        return False
    return is_steady(put_in(stretches[place][1], figures), low, high, sign)
