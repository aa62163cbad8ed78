"""Calls on one album of kinds that are drawn by their weights, and what these calls answer.

Which kinds are had is one whole number: 2 to the power of each one's number, together.
A fraction is a tuple: the number above, the number below.
"""

MOST_KINDS = 6
MOST_WEIGHT = 20
MOST_DRAWS = 20

NO_SUCH_KIND = -2
NONE_THERE = -6
NOT_BEGUN = -11
HAD_ALREADY = -17
OUT_OF_BOUNDS = -22
FULL = -28
NOTHING_LACKING = -33

NOT_REFUSED = 0

BEGIN = 0


class Album:
    """The kinds by their weights, and which of them are had."""

    def __init__(self):
        self.begun = False
        self.weights = []
        self.had = 0


def common_measure(first, second):
    """The greatest whole number that goes into both; not both are 0."""
    while second != 0:
        rest = first % second
        first = second
        second = rest
    return first


def lowest(above, below):
    """The fraction with nothing in common above and below."""
    common = common_measure(above, below)
    return (above // common, below // common)


def less_by(greater, smaller):
    """How much less the smaller fraction is than the greater."""
    return lowest(greater[0] * smaller[1] - smaller[0] * greater[1], greater[1] * smaller[1])


def is_below(first, second):
    """Whether the first fraction is less than the second."""
    return first[0] * second[1] < second[0] * first[1]


def told_fraction(fraction):
    """A fraction as a call answers it."""
    return [0, fraction[0], fraction[1]]


def is_had(had, kind):
    """Whether the kind is among those that are had."""
    return (had & (1 << kind)) != 0


def lacking_kinds(album):
    """The kinds that are lacking, rising."""
    return [kind for kind in range(len(album.weights)) if not is_had(album.had, kind)]


def with_kind(had, kind):
    """What is had, if the kind that is lacking were had, too."""
    return had + (1 << kind)


def by_next_new(weights, had, later, start):
    """The start and each lacking kind's weight times its later value, together, by the lacking kinds' weight.

    Something is lacking. A kind's later value is the one where it is had, too.
    """
    above = start
    below = 1
    lacking_weight = 0
    for kind, weight in enumerate(weights):
        if not is_had(had, kind):
            value = later[with_kind(had, kind)]
            above = above * value[1] + weight * value[0] * below
            below = below * value[1]
            lacking_weight += weight
    return lowest(above, below * lacking_weight)


def mean_table(weights):
    """For each choice of kinds that are had: the mean number of draws till all are there."""
    everything = (1 << len(weights)) - 1
    means = [(0, 1)] * (everything + 1)
    # A draw only ever adds to what is had, so the fuller choices are known first.
    for had in range(everything - 1, -1, -1):
        # The mean is 1 more than it is, on the average, behind the next draw. Draws of kinds that are had
        # leave it as it is: solved for it, they fall out, and the weight of all stands for the 1.
        means[had] = by_next_new(weights, had, means, sum(weights))
    return means


def last_table(weights, last):
    """For each choice of kinds that are had: how likely the kind comes last of those that are lacking."""
    everything = (1 << len(weights)) - 1
    likely = [(0, 1)] * (everything + 1)
    only_last_lacking = everything - (1 << last)
    likely[only_last_lacking] = (1, 1)
    # Where the kind itself is had it can't be the last any more: there all later values are 0, and so is it.
    for had in range(only_last_lacking - 1, -1, -1):
        likely[had] = by_next_new(weights, had, likely, 0)
    return likely


def rows_of_none(weights, had):
    """The one row of no draws, as rows_with_next tells rows."""
    rows = [0] * (1 << len(weights))
    rows[had] = 1
    return rows


def rows_with_next(weights, rows):
    """For each choice of kinds: how many rows of one more draw end with just these had.

    A kind counts as often as its weight, so that all rows are as likely.
    """
    longer = [0] * len(rows)
    for had, count in enumerate(rows):
        for kind, weight in enumerate(weights):
            longer[had | (1 << kind)] += count * weight
    return longer


def rows_behind(album, draws):
    """The rows of so many draws from now on, as rows_with_next tells them."""
    rows = rows_of_none(album.weights, album.had)
    for draw in range(draws):
        rows = rows_with_next(album.weights, rows)
    return rows


def refusal_of_lacking(album, kind):
    """Why the kind can't be taken as one that is lacking."""
    if kind >= len(album.weights):
        return NO_SUCH_KIND
    if is_had(album.had, kind):
        return HAD_ALREADY
    return NOT_REFUSED


def refusal_of_new(album, weight):
    """Why there can't be one more kind of this weight."""
    if weight < 1 or weight > MOST_WEIGHT:
        return OUT_OF_BOUNDS
    if len(album.weights) == MOST_KINDS:
        return FULL
    return NOT_REFUSED


def call_begin(album):
    album.begun = True
    album.weights = []
    album.had = 0
    return [0]


def call_kind(album, weight):
    refusal = refusal_of_new(album, weight)
    if refusal != NOT_REFUSED:
        return [refusal]
    album.weights.append(weight)
    return [len(album.weights) - 1]


def call_got(album, kind):
    refusal = refusal_of_lacking(album, kind)
    if refusal != NOT_REFUSED:
        return [refusal]
    album.had = with_kind(album.had, kind)
    return [len(lacking_kinds(album))]


def call_lost(album, kind):
    if kind >= len(album.weights):
        return [NO_SUCH_KIND]
    if not is_had(album.had, kind):
        return [NONE_THERE]
    album.had = album.had - (1 << kind)
    return [len(lacking_kinds(album))]


def call_mean(album):
    return told_fraction(mean_table(album.weights)[album.had])


def call_meanfrom(album, had):
    if had >= (1 << len(album.weights)):
        return [OUT_OF_BOUNDS]
    return told_fraction(mean_table(album.weights)[had])


def call_allby(album, draws):
    if len(album.weights) == 0:
        return [NONE_THERE]
    if draws > MOST_DRAWS:
        return [OUT_OF_BOUNDS]
    rows = rows_behind(album, draws)
    return told_fraction(lowest(rows[-1], sum(rows)))


def call_at(album, draws):
    if len(album.weights) == 0:
        return [NONE_THERE]
    if draws < 1 or draws > MOST_DRAWS:
        return [OUT_OF_BOUNDS]
    before = rows_behind(album, draws - 1)
    behind = rows_with_next(album.weights, before)
    # Rows that were whole before the last draw stay whole, whatever is drawn.
    whole_before = before[-1] * sum(album.weights)
    return told_fraction(lowest(behind[-1] - whole_before, sum(behind)))


def call_half(album):
    if len(album.weights) == 0:
        return [NONE_THERE]
    rows = rows_of_none(album.weights, album.had)
    draws = 0
    while 2 * rows[-1] < sum(rows):
        rows = rows_with_next(album.weights, rows)
        draws += 1
    return [draws]


def call_last(album, kind):
    refusal = refusal_of_lacking(album, kind)
    if refusal != NOT_REFUSED:
        return [refusal]
    return told_fraction(last_table(album.weights, kind)[album.had])


def call_worth(album, kind):
    refusal = refusal_of_lacking(album, kind)
    if refusal != NOT_REFUSED:
        return [refusal]
    means = mean_table(album.weights)
    return told_fraction(less_by(means[album.had], means[with_kind(album.had, kind)]))


def call_best(album):
    lacking = lacking_kinds(album)
    if len(lacking) == 0:
        return [NOTHING_LACKING]
    means = mean_table(album.weights)
    best = lacking[0]
    for kind in lacking:
        if is_below(means[with_kind(album.had, kind)], means[with_kind(album.had, best)]):
            best = kind
    return [best]


def call_even(album):
    return told_fraction(mean_table([1] * len(album.weights))[0])


def call_next(album):
    if len(album.weights) == 0:
        return [NONE_THERE]
    lacking_weight = sum([album.weights[kind] for kind in lacking_kinds(album)])
    return told_fraction(lowest(lacking_weight, sum(album.weights)))


def call_lacking(album):
    lacking = lacking_kinds(album)
    return [len(lacking)] + lacking


def call_rarest(album):
    lacking = lacking_kinds(album)
    if len(lacking) == 0:
        return [NOTHING_LACKING]
    rarest = lacking[0]
    for kind in lacking:
        if album.weights[kind] < album.weights[rarest]:
            rarest = kind
    return [rarest]


def call_more(album, weight):
    refusal = refusal_of_new(album, weight)
    if refusal != NOT_REFUSED:
        return [refusal]
    return told_fraction(mean_table(album.weights + [weight])[album.had])


def call_told(album):
    return [len(album.weights), album.had] + album.weights


CALLS_ALONE = {
    0: call_begin,
    4: call_mean,
    8: call_half,
    11: call_best,
    12: call_even,
    13: call_next,
    14: call_lacking,
    15: call_rarest,
    17: call_told,
}

CALLS_WITH_NUMBER = {
    1: call_kind,
    2: call_got,
    3: call_lost,
    5: call_meanfrom,
    6: call_allby,
    7: call_at,
    9: call_last,
    10: call_worth,
    16: call_more,
}


def numbers_in(call):
    """How many whole numbers stand behind the call's own number."""
    if call in CALLS_ALONE:
        return 0
    return 1


def answer_to(album, calls, place):
    """What the call that stands at this place answers."""
    call = calls[place]
    if call != BEGIN and not album.begun:
        return [NOT_BEGUN]
    if call in CALLS_ALONE:
        return CALLS_ALONE[call](album)
    return CALLS_WITH_NUMBER[call](album, calls[place + 1])


def answers(calls):
    """For each call on a new album, in order: how many numbers are answered, then these."""
    album = Album()
    answered = []
    place = 0
    while place < len(calls):
        answer = answer_to(album, calls, place)
        answered.append(len(answer))
        answered.extend(answer)
        place += 1 + numbers_in(calls[place])
    return answered
