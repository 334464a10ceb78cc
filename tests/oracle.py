"""The document's words once more, slowly and by fractions: what the tests hold the program against."""

import copy
import math
import random
import time
from fractions import Fraction

SIGNS = {"more": 1, "less": -1, "alike": 0}


def part(number):
    number = Fraction(number)
    return (number.numerator, number.denominator)


def sums(*rows):
    """Sums of rows (since, {(power, figures): number})."""
    return [(since, [(key, part(terms[key])) for key in sorted(terms, reverse=True) if terms[key] != 0])
            for since, terms in rows]


def flat(terms):
    """Sums of one row."""
    return sums((0, terms))


def random_sums(chance, rows, terms, *, over=5, under=1, since=20, power=2, figures=2):
    sinces = {0}
    while len(sinces) < rows:
        sinces.add(chance.randint(1, since))
    keys = [(p, q) for p in range(power + 1) for q in range(figures + 1)]
    made = []
    for start in sorted(sinces):
        chosen = chance.sample(keys, min(terms, len(keys)))
        made.append((start, {key: Fraction(chance.randint(-over, over), chance.randint(1, under)) for key in chosen}))
    return sums(*made)


def sign(number):
    return (number > 0) - (number < 0)


def terms_at(table, size):
    return [terms for since, terms in table if since <= size][-1]


def total(table, size):
    """What sums come to at a size, as a fraction."""
    figures = len(bin(size)) - 2 if size else 0
    return sum((Fraction(*share) * size ** p * figures ** q for (p, q), share in terms_at(table, size)), Fraction(0))


def gone_through(one, other, limit):
    """(word, size) by all sizes below the limit, at which the end is taken to be reached."""
    signs = [sign(total(one, size) - total(other, size)) for size in range(limit)]
    least = limit - 1
    while least > 0 and signs[least - 1] == signs[-1]:
        least -= 1
    return {1: "more", -1: "less", 0: "alike"}[signs[-1]], least


# [14], word by word.

def polynomial(one, other, size):
    """{(power, figures): whole number} of the stretch in which a size lies."""
    left = {}
    for table, side in ((one, 1), (other, -1)):
        for key, share in terms_at(table, size):
            left[key] = left.get(key, Fraction(0)) + side * Fraction(*share)
    left = {key: share for key, share in left.items() if share != 0}
    times = math.lcm(*[share.denominator for share in left.values()])
    return {key: int(times * share) for key, share in left.items()}


def is_int(thing):
    return type(thing) is int


def rising(values, number):
    return sum(share * number ** exponent for exponent, share in values.items())


def nth_difference(values, nth, number):
    numbers = [rising(values, number + step) for step in range(nth + 1)]
    for _ in range(nth):
        numbers = [after - before for before, after in zip(numbers, numbers[1:])]
    return numbers[0]


def left_over(values):
    return {exponent: share for exponent, share in values.items() if share != 0}


def steady(values, low, high, wanted):
    values = left_over(values)
    if sign(rising(values, low)) != wanted or sign(rising(values, high)) != wanted:
        return False
    most = max(values)
    for nth in range(1, min(most, high - low) + 1):
        if nth_difference(values, nth, low) * nth_difference(values, nth, high - nth) < 0:
            return False
    return True


def endless(values, low, wanted):
    values = left_over(values)
    if sign(rising(values, low)) != wanted:
        return False
    return all(sign(nth_difference(values, nth, low)) != -wanted for nth in range(1, max(values) + 1))


def low_is_met(last, first_size, low):
    if not last or low < 1 or low <= first_size.bit_length() or low < 2 * max(q for p, q in last):
        return False
    greatest = max(p for p, q in last)
    weight = sum(abs(share) * low ** q for (p, q), share in last.items() if p < greatest)
    return weight.bit_length() <= low - 1


def by_figures(whole, exponent):
    return {q: share for (p, q), share in whole.items() if p == exponent}


def row_holds(one, other, wanted, row):
    if type(row) is not tuple or len(row) != 3 or not is_int(row[1]):
        return False
    kind, low, high = row
    if not (is_int(high) and high >= low or kind == "figures" and high is None):
        return False
    if kind == "sizes":
        sinces = sorted({since for since, terms in one + other})
        if low < 0 or low.bit_length() != high.bit_length() or any(low < since <= high for since in sinces):
            return False
        values = {}
        for (p, q), share in polynomial(one, other, low).items():
            values[p] = values.get(p, 0) + share * low.bit_length() ** q
        return steady(values, low, high, wanted) if left_over(values) else False
    if kind not in ("figures", "block"):
        return False
    first_size = max(one[-1][0], other[-1][0])
    last = polynomial(one, other, first_size)
    if not low_is_met(last, first_size, low):
        return False
    exponents = sorted({p for p, q in last}, reverse=True)
    if kind == "block":
        found = [sign(rising(by_figures(last, exponent), low)) for exponent in exponents]
        return low == high and [each for each in found if each][:1] == [wanted]
    lead = by_figures(last, exponents[0])
    return endless(lead, low, wanted) if high is None else steady(lead, low, high, wanted)


def begins_at(row, size):
    if row[0] == "sizes":
        return row[1] == size
    return size.bit_length() == row[1] and size == 1 << (row[1] - 1)


def follows(ahead, row):
    """Whether a row begins where the one ahead of it ends."""
    if ahead[2] is None:
        return False
    if ahead[0] == "sizes":
        return begins_at(row, ahead[2] + 1)
    if row[0] != "sizes":
        return row[1] == ahead[2] + 1
    return row[1].bit_length() == ahead[2] + 1 and row[1] == 1 << ahead[2]


def shows(one, other, answer, rows):
    """Whether rows show that an answer is right."""
    word, size = answer
    if word not in SIGNS:
        return False
    wanted = SIGNS[word]
    if size > 0 and sign(total(one, size - 1) - total(other, size - 1)) == wanted:
        return False
    if word == "alike":
        if len(rows) != 1 or type(rows[0]) is not tuple or len(rows[0]) != 3:
            return False
        kind, low, high = rows[0]
        if kind != "alike" or not is_int(low) or low != size or high is not None:
            return False
        first_size = max(one[-1][0], other[-1][0])
        return not polynomial(one, other, first_size) and all(
            total(one, each) == total(other, each) for each in range(size, first_size))
    if not rows or not all(row_holds(one, other, wanted, row) for row in rows):
        return False
    if not begins_at(rows[0], size) or rows[-1][2] is not None:
        return False
    return all(follows(ahead, row) for ahead, row in zip(rows, rows[1:]))


# Steps and visits, [6] and [7].

def count(plans, name, size):
    """(steps, visits) of a plan at a size."""
    plan = plans[name]
    steps, visits = count_body(plans, plan, {"n": size})
    for thing in plan:
        if thing[0] == "again" and size > 0:
            lesser = {"halves": size // 2, "thirds": size // 3, "less": size - 1}[thing[2]]
            more, seen = count(plans, name, lesser)
            steps, visits = steps + thing[1] * more, visits + 1 + seen
    return steps, visits


def count_body(plans, body, known):
    pairs = [count_thing(plans, thing, known) for thing in body if thing[0] != "again"]
    return sum(steps for steps, visits in pairs), sum(1 + visits for steps, visits in pairs)


def count_rounds(pairs):
    return sum(steps for steps, visits in pairs), sum(1 + visits for steps, visits in pairs)


def count_thing(plans, thing, known):
    def end(pair):
        return pair[1] + (known[pair[0]] if pair[0] else 0)
    if thing[0] == "step":
        return thing[1], 0
    if thing[0] == "for":
        numbers = range(end(thing[2]), end(thing[3]) + 1)
        return count_rounds([count_body(plans, thing[4], {**known, thing[1]: number}) for number in numbers])
    if thing[0] == "if":
        return count_body(plans, thing[3] if end(thing[1]) <= end(thing[2]) else thing[4], known)
    if thing[0] == "double":
        figures = len(bin(known["n"])) - 2 if known["n"] else 0
        return count_rounds([count_body(plans, thing[1], known) for _ in range(figures)])
    return count(plans, thing[1], max(0, end(thing[2])))


def random_body(chance, names, calls, depth, room):
    things = [random_thing(chance, names, calls, depth, room) for _ in range(chance.randint(1, 2))]
    return tuple(things)


def random_end(chance, names):
    name = chance.choice(["", "n"] + names)
    return (name, chance.randint(0, 4) if name == "" else chance.randint(-3, 3))


def random_thing(chance, names, calls, depth, room):
    kinds = ["step"] + (["call"] if calls else []) + (["for", "for", "if", "double"] if depth < room else [])
    kind = chance.choice(kinds)
    if kind == "step":
        return ("step", chance.randint(0, 9))
    if kind == "call":
        return ("call", chance.choice(calls), random_end(chance, names))
    if kind == "double":
        return ("double", random_body(chance, names, calls, depth + 1, room))
    if kind == "for":
        name = "abcdefgh"[len(names)]
        ends = (random_end(chance, names), random_end(chance, names))
        return ("for", name, *ends, random_body(chance, names + [name], calls, depth + 1, room))
    other = random_body(chance, names, calls, depth + 1, room) if chance.random() < 0.5 else ()
    body = random_body(chance, names, calls, depth + 1, room)
    return ("if", random_end(chance, names), random_end(chance, names), body, other)


def random_plan(chance, calls, room=3, again=0.6):
    plan = list(random_body(chance, [], calls, 0, room))
    if chance.random() < again:
        word = chance.choice(["halves", "thirds", "less"])
        times = 1 if word == "less" else chance.randint(1, 9)
        plan.insert(chance.randint(0, len(plan)), ("again", times, word))
    return tuple(plan)


def seeded(number):
    return random.Random(number)


def kept(case, values, ask):
    """What ask tells of the values; the test case fails if it changes one of them, or takes over a second."""
    before = copy.deepcopy(values)
    began = time.process_time()
    told = ask(*values)
    case.assertLess(time.process_time() - began, 1)
    case.assertEqual(values, before)
    return told
