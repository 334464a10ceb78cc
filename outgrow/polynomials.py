"""Whole polynomials of one number: how they keep a sign, and where they turn it.

A polynomial is a list of its parts from the power 0 up, of which the last one is not 0;
the empty list is nought.
"""

from outgrow.parts import sign_of

# The sums of the powers 0 to 8 of all numbers from 1 on: polynomials, each taken times SUMS_TIMES to be whole.
SUMS_TIMES = 2520
POWER_SUMS = (
    (0, 2520),
    (0, 1260, 1260),
    (0, 420, 1260, 840),
    (0, 0, 630, 1260, 630),
    (0, -84, 0, 840, 1260, 504),
    (0, 0, -210, 0, 1050, 1260, 420),
    (0, 60, 0, -420, 0, 1260, 1260, 360),
    (0, 0, 210, 0, -735, 0, 1470, 1260, 315),
    (0, -84, 0, 560, 0, -1176, 0, 1680, 1260, 280),
)


def trimmed(parts):
    """The polynomial of these parts, without the noughts of its greatest powers."""
    end = len(parts)
    while end > 0 and parts[end - 1] == 0:
        end -= 1
    return parts[:end]


def value(polynomial, number):
    total = 0
    for part in reversed(polynomial):
        total = total * number + part
    return total


def sign_at(polynomial, number):
    return sign_of(value(polynomial, number))


def values_from(polynomial, first, many):
    """A list of the values at so many numbers from the first one on."""
    return [value(polynomial, first + place) for place in range(many)]


def gaps(numbers):
    """A list of how much each number but the first is more than the one ahead of it."""
    return [numbers[place + 1] - numbers[place] for place in range(len(numbers) - 1)]


def added(one, other):
    if len(one) < len(other):
        one, other = other, one
    parts = [part + more for part, more in zip(one, other)] + one[len(other):]
    while parts and parts[-1] == 0:
        parts.pop()
    return parts


def product(one, other):
    if not one or not other:
        return []
    parts = [0] * (len(one) + len(other) - 1)
    for place, part in enumerate(one):
        for behind, more in enumerate(other):
            parts[place + behind] += part * more
    return parts


def shifted(polynomial, number):
    """The polynomial that comes to at a number what this one comes to so much behind it."""
    parts = list(polynomial)
    for done in range(len(parts)):
        for place in reversed(range(done, len(parts) - 1)):
            parts[place] += number * parts[place + 1]
    return parts


def difference(polynomial):
    """The polynomial of what a polynomial has more at the next number than at a number."""
    return trimmed([behind - ahead for ahead, behind in zip(polynomial, shifted(polynomial, 1))])


def summed_up(polynomial):
    """The polynomial that is 0 at 0, and at each number so much more than ahead of it as this one comes to there.

    The powers are at most 8, and what this one comes to has a shared divisor by which the sum stays whole.
    """
    parts = [0] * (len(polynomial) + 1)
    for part, sums in zip(polynomial, POWER_SUMS):
        for place, share in enumerate(sums):
            parts[place] += part * share
    return trimmed([part // SUMS_TIMES for part in parts])


def is_steady(polynomial, low, high, sign):
    """Whether a polynomial has the sign, 1 or -1, at both ends, and no difference turns between them."""
    if sign_at(polynomial, low) != sign or sign_at(polynomial, high) != sign:
        return False
    many = min(len(polynomial) - 1, high - low)
    ahead = values_from(polynomial, low, many + 1)
    behind = values_from(polynomial, high - many, many + 1)
    for turn in range(many):
        ahead = gaps(ahead)
        behind = gaps(behind)
        if sign_of(ahead[0]) * sign_of(behind[-1]) < 0:
            return False
    return True


def is_endless(polynomial, low, sign):
    """Whether a polynomial has the sign, 1 or -1, at low, and no difference there the other one."""
    if sign_at(polynomial, low) != sign:
        return False
    ahead = values_from(polynomial, low, len(polynomial))
    while len(ahead) > 1:
        ahead = gaps(ahead)
        if sign_of(ahead[0]) == -sign:
            return False
    return True


def first_turned(polynomial, low, high):
    """The least number above low with another sign than low has.

    The polynomial only rises or only falls from low to high, and high has another sign than low.
    """
    sign = sign_at(polynomial, low)
    while high - low > 1:
        middle = (low + high) // 2
        if sign_at(polynomial, middle) == sign:
            low = middle
        else:
            high = middle
    return high


def sign_starts(polynomial, low, high):
    """Where the runs of one sign begin, of a polynomial that only rises or only falls from low to high."""
    last_sign = sign_at(polynomial, high)
    starts = [low]
    while sign_at(polynomial, starts[-1]) != last_sign:
        starts.append(first_turned(polynomial, starts[-1], high))
    return starts


def ends_of(starts, high):
    """The last number of each run, runs that go on to high being told by their first ones."""
    return [start - 1 for start in starts[1:]] + [high]


def runs(polynomial, low, high):
    """A list of (first, last, sign), from low to high without a gap: where a polynomial keeps its sign.

    Each of its differences keeps its sign there, too, so a run with the sign 1 or -1 is steady.
    Between two turns of a difference what it is the difference of only rises or only falls:
    therefore the runs are cut by the last difference first, and by the polynomial itself last.
    """
    if low > high:
        return []
    ladder = [polynomial]
    while len(ladder[-1]) > 1:
        ladder.append(difference(ladder[-1]))
    starts = [low]
    for rung in reversed(ladder):
        finer = []
        for first, last in zip(starts, ends_of(starts, high)):
            finer.extend(sign_starts(rung, first, last))
        starts = finer
    return [(first, last, sign_at(polynomial, first)) for first, last in zip(starts, ends_of(starts, high))]
