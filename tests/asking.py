"""Lines of calls written by name, their answers call by call, and other ways of counting."""

from fractions import Fraction
from itertools import combinations, permutations, product

from albumkinds.album import answers

BEGIN = (0,)
MEAN = (4,)
HALF = (8,)
BEST = (11,)
EVEN = (12,)
NEXT = (13,)
LACKING = (14,)
RAREST = (15,)
TOLD = (17,)

GREATEST = 4294967295


def kind(w):
    return (1, w)


def got(i):
    return (2, i)


def lost(i):
    return (3, i)


def meanfrom(m):
    return (5, m)


def allby(n):
    return (6, n)


def at(n):
    return (7, n)


def last(i):
    return (9, i)


def worth(i):
    return (10, i)


def more(w):
    return (16, w)


def flat(calls):
    return [number for call in calls for number in call]


def split(answered):
    """The answers call by call, out of the one list with each answer's length before it."""
    parts = []
    place = 0
    while place < len(answered):
        length = answered[place]
        part = answered[place + 1:place + 1 + length]
        if len(part) != length:
            raise ValueError("the last answer is cut off")
        parts.append(part)
        place += 1 + length
    return parts


def ask(*calls):
    parts = split(answers(flat(calls)))
    if len(parts) != len(calls):
        raise ValueError(f"{len(calls)} calls, {len(parts)} answers")
    return parts


def begun(weights, had=()):
    """The calls that lead to these kinds, with these had."""
    return [BEGIN] + [kind(w) for w in weights] + [got(i) for i in had]


def ask_of(weights, had, *calls):
    """The answers to the calls alone, asked of these kinds with these had."""
    before = begun(weights, had)
    return ask(*before, *calls)[len(before):]


def as_told(fraction):
    fraction = Fraction(fraction)
    return [0, fraction.numerator, fraction.denominator]


def as_fraction(told):
    zero, above, below = told
    if zero != 0:
        raise ValueError(f"{told} is no fraction")
    return Fraction(above, below)


def without(count, had):
    """The kinds of so many that are lacking, rising."""
    return [i for i in range(count) if i not in had]


def choices(count):
    """Every choice of so many kinds, as a tuple of numbers, rising."""
    for size in range(count + 1):
        yield from combinations(range(count), size)


def mask(kinds):
    return sum(2 ** i for i in kinds)


def sums_of_lacking(weights, had):
    """For each choice of lacking kinds: its sign by its size, and its weight."""
    lacking = [w for i, w in enumerate(weights) if i not in had]
    for size in range(len(lacking) + 1):
        for chosen in combinations(lacking, size):
            yield (-1) ** size, sum(chosen)


def mean_by_choices(weights, had):
    """The longest wait out of the shortest waits of all choices, with signs in turn."""
    return -sum(sign * Fraction(sum(weights), part) for sign, part in sums_of_lacking(weights, had) if part)


def allby_by_choices(weights, had, n):
    """How likely no kind is left out, out of how likely each choice is left out."""
    total = sum(weights)
    return sum(sign * Fraction(total - part, total) ** n for sign, part in sums_of_lacking(weights, had))


def orders_of_lacking(weights, had):
    """Every order in which the lacking kinds may come: how likely it is, its mean number of draws, itself."""
    for order in permutations(without(len(weights), had)):
        likely = Fraction(1)
        draws = Fraction(0)
        for place in range(len(order)):
            still_lacking = sum(weights[i] for i in order[place:])
            likely *= Fraction(weights[order[place]], still_lacking)
            draws += Fraction(sum(weights), still_lacking)
        yield likely, draws, order


def last_by_orders(weights, had, kind):
    return sum(likely for likely, draws, order in orders_of_lacking(weights, had) if order[-1] == kind)


def mean_by_orders(weights, had):
    return sum(likely * draws for likely, draws, order in orders_of_lacking(weights, had))


def worth_by_orders(weights, had, kind):
    return mean_by_orders(weights, had) - mean_by_orders(weights, (*had, kind))


def ends_by_rows(weights, had, most):
    """For 0 to most draws: how likely all are there just then, over all rows of draws, one by one."""
    ends = [Fraction(0)] * (most + 1)
    for row in product(range(len(weights)), repeat=most):
        likely = Fraction(1)
        for drawn in row:
            likely *= Fraction(weights[drawn], sum(weights))
        for n in range(most + 1):
            if len(set(had) | set(row[:n])) == len(weights):
                ends[n] += likely
                break
    return ends
