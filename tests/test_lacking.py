"""Point 4: last, worth, best, rarest."""

import unittest
from itertools import product

from asking import (BEGIN, BEST, GREATEST, MEAN, RAREST, as_fraction, as_told, ask, ask_of, choices, got, kind,
                    last, last_by_orders, lost, mask, mean_by_choices, meanfrom, without, worth, worth_by_orders)

SIX_KINDS = ((1, 1, 1, 1, 1, 1), (1, 20, 20, 20, 20, 20), (20, 1, 1, 1, 1, 1), (7, 11, 13, 17, 19, 20),
             (10, 5, 5, 20, 20, 10))
FEW_KINDS = [weights for count in (1, 2, 3) for weights in product((1, 2, 3, 20), repeat=count)]
FOUR_KINDS = ((1, 20, 20, 1), (4, 3, 2, 1), (5, 5, 5, 5), (9, 2, 2, 9))


def with_some_lacking(some_weights):
    """Each choice of kinds that are had, but all of them."""
    for weights in some_weights:
        for had in choices(len(weights)):
            if len(had) < len(weights):
                yield weights, had


def first_rarest(weights, had):
    return min((weights[i], i) for i in without(len(weights), had))[1]


class Last(unittest.TestCase):
    def test_one_lacking_is_certain(self):
        self.assertEqual(ask_of((20,), (), last(0)), [[0, 1, 1]])
        self.assertEqual(ask_of((1, 20, 3), (0, 2), last(1)), [[0, 1, 1]])

    def test_two_lacking_by_hand(self):
        self.assertEqual(ask_of((1, 2), (), last(0), last(1)), [[0, 2, 3], [0, 1, 3]])
        self.assertEqual(ask_of((1, 20), (), last(0), last(1)), [[0, 20, 21], [0, 1, 21]])

    def test_what_is_had_does_not_matter(self):
        self.assertEqual(ask_of((1, 7, 20, 19), (1, 3), last(0), last(2)), [[0, 20, 21], [0, 1, 21]])

    def test_three_lacking_by_hand(self):
        # The first of weight 1 is last if 2 then 3 come, 2/6 * 3/4, or 3 then 2, 3/6 * 2/3; and so on.
        self.assertEqual(ask_of((1, 2, 3), (), last(0), last(1), last(2)), [[0, 7, 12], [0, 4, 15], [0, 3, 20]])

    def test_alike_kinds(self):
        self.assertEqual(ask_of((13,) * 6, (), *[last(i) for i in range(6)]), [[0, 1, 6]] * 6)

    def test_over_all_orders(self):
        for weights, had in with_some_lacking((*FEW_KINDS, *FOUR_KINDS)):
            lacking = without(len(weights), had)
            self.assertEqual(ask_of(weights, had, *[last(i) for i in lacking]),
                             [as_told(last_by_orders(weights, had, i)) for i in lacking])

    def test_over_all_orders_of_six(self):
        for weights in SIX_KINDS:
            for had in ((), (3,)):
                for i in without(6, had):
                    self.assertEqual(ask_of(weights, had, last(i)), [as_told(last_by_orders(weights, had, i))])

    def test_one_is_the_last_for_certain_and_the_rarest_likeliest(self):
        for weights, had in with_some_lacking((*SIX_KINDS, *FOUR_KINDS)):
            lacking = without(len(weights), had)
            told = ask_of(weights, had, RAREST, *[last(i) for i in lacking])
            likely = {i: as_fraction(one) for i, one in zip(lacking, told[1:])}
            self.assertEqual(sum(likely.values()), 1)
            rarest = told[0][0]
            for i in lacking:
                if weights[i] == weights[rarest]:
                    self.assertEqual(likely[i], likely[rarest])
                else:
                    self.assertLess(likely[i], likely[rarest])

    def test_no_such_kind(self):
        self.assertEqual(ask(BEGIN, last(0), last(GREATEST)), [[0], [-2], [-2]])
        self.assertEqual(ask_of((1, 2), (0,), last(2), last(32), last(GREATEST)), [[-2]] * 3)
        self.assertEqual(ask_of((1,) * 6, (5,), last(6), last(5), last(0)), [[-2], [-17], [0, 1, 5]])

    def test_had_already(self):
        self.assertEqual(ask_of((1, 2), (0,), last(0), last(1), got(1), last(1), last(2), lost(0), last(0)),
                         [[-17], [0, 1, 1], [0], [-17], [-2], [1], [0, 1, 1]])


class Worth(unittest.TestCase):
    def test_one_lacking_is_worth_the_whole_mean(self):
        self.assertEqual(ask_of((20,), (), worth(0)), [[0, 1, 1]])
        self.assertEqual(ask_of((1, 20), (1,), worth(0)), [[0, 21, 1]])
        self.assertEqual(ask_of((1, 20), (0,), worth(1)), [[0, 21, 20]])

    def test_two_lacking_by_hand(self):
        # From 7/2 to 3/2, and from 7/2 to 3.
        self.assertEqual(ask_of((1, 2), (), worth(0), worth(1)), [[0, 2, 1], [0, 1, 2]])
        # From 421/20 to 21/20, and from 421/20 to 21.
        self.assertEqual(ask_of((1, 20), (), worth(0), worth(1)), [[0, 20, 1], [0, 1, 20]])

    def test_three_kinds_by_hand(self):
        # 6, 3 and 2 draws are waited for, less 6/3, 6/4 and 6/5 for either of two, and 1 more for any: 73/10.
        # With the first had it's 3 + 2 - 6/5, or 19/5; with the second 6 + 2 - 6/4; with the third 6 + 3 - 6/3.
        self.assertEqual(ask_of((1, 2, 3), (), worth(0), worth(1), worth(2)), [[0, 7, 2], [0, 4, 5], [0, 3, 10]])

    def test_over_all_orders(self):
        for weights, had in with_some_lacking((*FEW_KINDS, *FOUR_KINDS)):
            lacking = without(len(weights), had)
            self.assertEqual(ask_of(weights, had, *[worth(i) for i in lacking]),
                             [as_told(worth_by_orders(weights, had, i)) for i in lacking])

    def test_by_choices_for_six_kinds(self):
        for weights, had in with_some_lacking(SIX_KINDS):
            for i in without(6, had):
                less = mean_by_choices(weights, had) - mean_by_choices(weights, (*had, i))
                self.assertEqual(ask_of(weights, had, worth(i)), [as_told(less)])

    def test_is_mean_less_mean_with_it_had(self):
        for weights, had in with_some_lacking(FOUR_KINDS):
            for i in without(4, had):
                told = ask_of(weights, had, worth(i), MEAN, meanfrom(mask((*had, i))), got(i), MEAN)
                self.assertEqual(as_fraction(told[0]), as_fraction(told[1]) - as_fraction(told[2]))
                self.assertEqual(told[2], told[4])

    def test_is_above_0_and_the_rarest_is_worth_most(self):
        for weights, had in with_some_lacking((*SIX_KINDS, *FOUR_KINDS)):
            lacking = without(len(weights), had)
            told = ask_of(weights, had, RAREST, *[worth(i) for i in lacking])
            less = {i: as_fraction(one) for i, one in zip(lacking, told[1:])}
            rarest = told[0][0]
            for i in lacking:
                self.assertGreater(less[i], 0)
                if weights[i] == weights[rarest]:
                    self.assertEqual(less[i], less[rarest])
                else:
                    self.assertLess(less[i], less[rarest])

    def test_no_such_kind(self):
        self.assertEqual(ask(BEGIN, worth(0), worth(GREATEST)), [[0], [-2], [-2]])
        self.assertEqual(ask_of((1, 2), (0,), worth(2), worth(32), worth(GREATEST)), [[-2]] * 3)
        self.assertEqual(ask_of((1,) * 6, (5,), worth(6), worth(5)), [[-2], [-17]])

    def test_had_already(self):
        self.assertEqual(ask_of((1, 2), (0,), worth(0), worth(1), got(1), worth(1), worth(2), lost(0), worth(0)),
                         [[-17], [0, 3, 2], [0], [-17], [-2], [1], [0, 3, 1]])


class Best(unittest.TestCase):
    def test_nothing_lacking(self):
        self.assertEqual(ask(BEGIN, BEST), [[0], [-33]])
        self.assertEqual(ask_of((1,), (0,), BEST), [[-33]])
        self.assertEqual(ask_of((1, 2, 3, 4, 5, 6), (0, 1, 2, 3, 4, 5), BEST), [[-33]])

    def test_one_lacking(self):
        self.assertEqual(ask_of((20,), (), BEST), [[0]])
        self.assertEqual(ask_of((1, 20, 3), (0, 2), BEST), [[1]])

    def test_by_hand(self):
        self.assertEqual(ask_of((2, 1), (), BEST, got(1), BEST, got(0), BEST, lost(1), BEST),
                         [[1], [1], [0], [0], [-33], [1], [1]])

    def test_two_as_rare(self):
        self.assertEqual(ask_of((20, 1, 7, 1), (), BEST, got(1), BEST, got(3), BEST), [[1], [3], [3], [2], [2]])
        self.assertEqual(ask_of((4,) * 6, (0, 1), BEST), [[2]])

    def test_a_new_one(self):
        self.assertEqual(ask_of((5, 5), (0, 1), BEST, kind(20), BEST, kind(19), BEST, BEGIN, BEST),
                         [[-33], [2], [2], [3], [3], [0], [-33]])

    def test_mean_is_least_with_it_and_it_is_the_first(self):
        for weights, had in with_some_lacking((*FEW_KINDS, *FOUR_KINDS, *SIX_KINDS)):
            means = [(mean_by_choices(weights, (*had, i)), i) for i in without(len(weights), had)]
            self.assertEqual(ask_of(weights, had, BEST), [[min(means)[1]]])


class Rarest(unittest.TestCase):
    def test_nothing_lacking(self):
        self.assertEqual(ask(BEGIN, RAREST), [[0], [-33]])
        self.assertEqual(ask_of((1,), (0,), RAREST), [[-33]])
        self.assertEqual(ask_of((1, 2, 3, 4, 5, 6), (0, 1, 2, 3, 4, 5), RAREST), [[-33]])

    def test_one_lacking(self):
        self.assertEqual(ask_of((20,), (), RAREST), [[0]])
        self.assertEqual(ask_of((1, 20, 3), (0, 2), RAREST), [[1]])

    def test_by_hand(self):
        self.assertEqual(ask_of((20, 3, 1, 2), (), RAREST, got(2), RAREST, got(3), RAREST, lost(2), RAREST),
                         [[2], [3], [3], [2], [1], [3], [2]])

    def test_two_as_rare(self):
        self.assertEqual(ask_of((20, 1, 7, 1), (), RAREST, got(1), RAREST, got(3), RAREST), [[1], [3], [3], [2], [2]])
        self.assertEqual(ask_of((4,) * 6, (0, 1), RAREST), [[2]])

    def test_a_new_one(self):
        self.assertEqual(ask_of((5, 5), (0, 1), RAREST, kind(20), RAREST, kind(19), RAREST, BEGIN, RAREST),
                         [[-33], [2], [2], [3], [3], [0], [-33]])

    def test_each_choice(self):
        for weights, had in with_some_lacking((*FEW_KINDS, *FOUR_KINDS, *SIX_KINDS)):
            self.assertEqual(ask_of(weights, had, RAREST), [[first_rarest(weights, had)]])


if __name__ == "__main__":
    unittest.main()
