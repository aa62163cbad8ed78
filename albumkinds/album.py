"""Calls on one album of kinds that are drawn by their weights, and what these calls answer.

Which kinds are had is one whole number: 2 to the power of each one's number, together.
A fraction is a tuple: the number above, the number below.
"""

MOST_KINDS = 6
MOST_WEIGHT = 20
MOST_DRAWS = 20

NO_SUCH_KIND = -2
NONE_THERE = -6
NOT_BEGUN = -11
HAD_ALREADY = -17
OUT_OF_BOUNDS = -22
FULL = -28

BEGIN = 0


class Album:
    """The kinds by their weights, and which of them are had."""

    def __init__(self):
        self.begun = False
        self.weights = []
        self.had = 0


def common_measure(first, second):
    """The greatest whole number that goes into both; not both are 0."""
    while second != 0:
        rest = first % second
        first = second
        second = rest
    return first


def lowest(above, below):
    """The fraction with nothing in common above and below."""
    common = common_measure(above, below)
    return (above // common, below // common)


def told_fraction(fraction):
    """A fraction as a call answers it."""
    return [0, fraction[0], fraction[1]]


def is_had(had, kind):
    """Whether the kind is among those that are had."""
    return (had & (1 << kind)) != 0


def count_lacking(album):
    """How many kinds are lacking."""
    return len([kind for kind in range(len(album.weights)) if not is_had(album.had, kind)])


def mean_table(weights):
    """For each choice of kinds that are had: the mean number of draws till all are there."""
    everything = (1 << len(weights)) - 1
    means = [(0, 1)] * (everything + 1)
    # A draw only ever adds to what is had, so the fuller choices are known first.
    for had in range(everything - 1, -1, -1):
        means[had] = mean_by_next(weights, had, means)
    return means


def mean_by_next(weights, had, means):
    """The mean where something is lacking, out of the means where one more kind is had."""
    # The mean is 1 more than it is, on the average, behind the next draw. Draws of kinds that are had
    # leave it as it is: solved for it, they fall out, and the lacking kinds' weight stands below.
    above = sum(weights)
    below = 1
    lacking_weight = 0
    for kind, weight in enumerate(weights):
        if not is_had(had, kind):
            later = means[had | (1 << kind)]
            above = above * later[1] + weight * later[0] * below
            below = below * later[1]
            lacking_weight += weight
    return lowest(above, below * lacking_weight)


def rows_of_none(weights, had):
    """The one row of no draws, as rows_with_next tells rows."""
    rows = [0] * (1 << len(weights))
    rows[had] = 1
    return rows


def rows_with_next(weights, rows):
    """For each choice of kinds: how many rows of one more draw end with just these had.

    A kind counts as often as its weight, so that all rows are as likely.
    """
    longer = [0] * len(rows)
    for had, count in enumerate(rows):
        for kind, weight in enumerate(weights):
            longer[had | (1 << kind)] += count * weight
    return longer


def rows_behind(album, draws):
    """The rows of so many draws from now on, as rows_with_next tells them."""
    rows = rows_of_none(album.weights, album.had)
    for draw in range(draws):
        rows = rows_with_next(album.weights, rows)
    return rows


def call_begin(album):
    album.begun = True
    album.weights = []
    album.had = 0
    return [0]


def call_kind(album, weight):
    if weight < 1 or weight > MOST_WEIGHT:
        return [OUT_OF_BOUNDS]
    if len(album.weights) == MOST_KINDS:
        return [FULL]
    album.weights.append(weight)
    return [len(album.weights) - 1]


def call_got(album, kind):
    if kind >= len(album.weights):
        return [NO_SUCH_KIND]
    if is_had(album.had, kind):
        return [HAD_ALREADY]
    album.had = album.had + (1 << kind)
    return [count_lacking(album)]


def call_lost(album, kind):
    if kind >= len(album.weights):
        return [NO_SUCH_KIND]
    if not is_had(album.had, kind):
        return [NONE_THERE]
    album.had = album.had - (1 << kind)
    return [count_lacking(album)]


def call_mean(album):
    return told_fraction(mean_table(album.weights)[album.had])


def call_meanfrom(album, had):
    if had >= (1 << len(album.weights)):
        return [OUT_OF_BOUNDS]
    return told_fraction(mean_table(album.weights)[had])


def call_allby(album, draws):
    if len(album.weights) == 0:
        return [NONE_THERE]
    if draws > MOST_DRAWS:
        return [OUT_OF_BOUNDS]
    rows = rows_behind(album, draws)
    return told_fraction(lowest(rows[-1], sum(rows)))


def call_at(album, draws):
    if len(album.weights) == 0:
        return [NONE_THERE]
    if draws < 1 or draws > MOST_DRAWS:
        return [OUT_OF_BOUNDS]
    before = rows_behind(album, draws - 1)
    behind = rows_with_next(album.weights, before)
    # Rows that were whole before the last draw stay whole, whatever is drawn.
    whole_before = before[-1] * sum(album.weights)
    return told_fraction(lowest(behind[-1] - whole_before, sum(behind)))


def call_half(album):
    if len(album.weights) == 0:
        return [NONE_THERE]
    rows = rows_of_none(album.weights, album.had)
    draws = 0
    while 2 * rows[-1] < sum(rows):
        rows = rows_with_next(album.weights, rows)
        draws += 1
    return [draws]


CALLS_ALONE = {
    0: call_begin,
    4: call_mean,
    8: call_half,
}

CALLS_WITH_NUMBER = {
    1: call_kind,
    2: call_got,
    3: call_lost,
    5: call_meanfrom,
    6: call_allby,
    7: call_at,
}


def numbers_in(call):
    """How many whole numbers stand behind the call's own number."""
    if call in CALLS_ALONE:
        return 0
    return 1


def answer_to(album, calls, place):
    """What the call that stands at this place answers."""
    call = calls[place]
    if call != BEGIN and not album.begun:
        return [NOT_BEGUN]
    if call in CALLS_ALONE:
        return CALLS_ALONE[call](album)
    return CALLS_WITH_NUMBER[call](album, calls[place + 1])


def answers(calls):
    """For each call on a new album, in order: how many numbers are answered, then these."""
    album = Album()
    answered = []
    place = 0
    while place < len(calls):
        answer = answer_to(album, calls, place)
        answered.append(len(answer))
        answered.extend(answer)
        place += 1 + numbers_in(calls[place])
    return answered
