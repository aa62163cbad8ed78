"""Point 2: mean, meanfrom, even, more."""

import unittest
from fractions import Fraction
from itertools import product

from asking import (BEGIN, EVEN, GREATEST, MEAN, TOLD, as_fraction, as_told, ask, ask_of, choices, got, kind, lost,
                    mask, mean_by_choices, mean_by_orders, meanfrom, more)

SIX_KINDS = ((1, 1, 1, 1, 1, 1), (20,) * 6, (1, 20, 20, 20, 20, 20), (20, 1, 1, 1, 1, 1), (7, 11, 13, 17, 19, 20),
             (6, 5, 4, 3, 2, 1), (10, 10, 5, 5, 20, 20))


class Mean(unittest.TestCase):
    def test_no_kinds(self):
        self.assertEqual(ask(BEGIN, MEAN), [[0], [0, 0, 1]])

    def test_one_kind(self):
        for weight in (1, 7, 20):
            self.assertEqual(ask_of((weight,), (), MEAN, got(0), MEAN, lost(0), MEAN),
                             [[0, 1, 1], [0], [0, 0, 1], [1], [0, 1, 1]])

    def test_nothing_lacking(self):
        self.assertEqual(ask_of((3, 4, 5, 6, 7, 8), (0, 1, 2, 3, 4, 5), MEAN), [[0, 0, 1]])

    def test_one_lacking_waits_by_its_weight(self):
        self.assertEqual(ask_of((1, 20), (1,), MEAN), [[0, 21, 1]])
        self.assertEqual(ask_of((1, 20), (0,), MEAN), [[0, 21, 20]])
        self.assertEqual(ask_of((1, 20, 20, 20, 20, 20), (1, 2, 3, 4, 5), MEAN), [[0, 101, 1]])
        self.assertEqual(ask_of((6, 3, 3), (1, 2), MEAN), [[0, 2, 1]])

    def test_two_lacking_by_hand(self):
        # 3 draws of weight 1 and 3/2 of weight 2 are waited for, less 1 for either.
        self.assertEqual(ask_of((1, 2), (), MEAN), [[0, 7, 2]])
        self.assertEqual(ask_of((1, 20), (), MEAN), [[0, 421, 20]])

    def test_alike_kinds_by_hand(self):
        means = [as_told(1), as_told(3), [0, 11, 2], [0, 25, 3], [0, 137, 12], [0, 147, 10]]
        for count in range(1, 7):
            for weight in (1, 13, 20):
                self.assertEqual(ask_of((weight,) * count, (), MEAN), [means[count - 1]])

    def test_what_is_had_is_told_apart(self):
        self.assertEqual(ask_of((1, 2, 3), (0,), MEAN), [as_told(2 + 3 - Fraction(6, 5))])
        self.assertEqual(ask_of((1, 2, 3), (1,), MEAN), [as_told(6 + 2 - Fraction(6, 4))])
        self.assertEqual(ask_of((1, 2, 3), (2,), MEAN), [as_told(6 + 3 - Fraction(6, 3))])

    def test_by_choices_for_all_small_weights(self):
        for count in (1, 2, 3):
            for weights in product((1, 2, 3, 4, 19, 20), repeat=count):
                for had in choices(count):
                    self.assertEqual(ask_of(weights, had, MEAN), [as_told(mean_by_choices(weights, had))])

    def test_by_choices_for_six_kinds(self):
        for weights in SIX_KINDS:
            for had in choices(6):
                self.assertEqual(ask_of(weights, had, MEAN), [as_told(mean_by_choices(weights, had))])

    def test_over_all_orders(self):
        for weights in ((1, 20, 5, 5), (2, 3), (20,)):
            for had in choices(len(weights)):
                self.assertEqual(ask_of(weights, had, MEAN), [as_told(mean_by_orders(weights, had))])

    def test_is_one_more_than_behind_the_next_draw(self):
        for weights in SIX_KINDS:
            told = ask_of(weights, (), *[meanfrom(m) for m in range(64)])
            means = [as_fraction(one) for one in told]
            for m in range(63):
                behind = sum(w * means[m | 2 ** i] for i, w in enumerate(weights)) / sum(weights)
                self.assertEqual(means[m], 1 + behind)

    def test_from_nothing_only_alike_chances_are_soonest(self):
        for count, alike in ((2, Fraction(3)), (3, Fraction(11, 2))):
            for weights in product((1, 2, 3, 20), repeat=count):
                mean = as_fraction(ask_of(weights, (), MEAN)[0])
                if len(set(weights)) == 1:
                    self.assertEqual(mean, alike)
                else:
                    self.assertGreater(mean, alike)


class MeanFrom(unittest.TestCase):
    def test_no_kinds(self):
        self.assertEqual(ask(BEGIN, meanfrom(0), meanfrom(1), meanfrom(GREATEST)), [[0], [0, 0, 1], [-22], [-22]])

    def test_bound_for_each_count_of_kinds(self):
        for count in range(7):
            asked = ask_of((3,) * count, (), meanfrom(2 ** count - 1), meanfrom(2 ** count), meanfrom(GREATEST))
            self.assertEqual(asked, [[0, 0, 1], [-22], [-22]])

    def test_which_kinds_by_hand(self):
        self.assertEqual(ask_of((1, 2), (), meanfrom(0), meanfrom(1), meanfrom(2), meanfrom(3)),
                         [[0, 7, 2], [0, 3, 2], [0, 3, 1], [0, 0, 1]])

    def test_what_is_had_does_not_matter(self):
        asked = [meanfrom(m) for m in range(8)]
        for had in choices(3):
            self.assertEqual(ask_of((4, 9, 1), had, *asked), ask_of((4, 9, 1), (), *asked))

    def test_changes_nothing(self):
        self.assertEqual(ask_of((1, 2), (0,), meanfrom(2), MEAN, got(0), got(1)),
                         [[0, 3, 1], [0, 3, 2], [-17], [0]])

    def test_is_as_mean_with_just_these_had(self):
        weights = (20, 3, 8, 1, 5, 13)
        for had in choices(6):
            self.assertEqual(ask_of(weights, (), meanfrom(mask(had))), ask_of(weights, had, MEAN))

    def test_with_one_more_kind_more_is_allowed(self):
        self.assertEqual(ask_of((5,), (), meanfrom(2), kind(5), meanfrom(2), meanfrom(4)),
                         [[-22], [1], [0, 2, 1], [-22]])


class Even(unittest.TestCase):
    ALIKE = [[0, 0, 1], [0, 1, 1], [0, 3, 1], [0, 11, 2], [0, 25, 3], [0, 137, 12], [0, 147, 10]]

    def test_by_hand_for_each_count_of_kinds(self):
        for count in range(7):
            for weights in ((1, 20, 3, 7, 7, 19), (20,) * 6, (1,) * 6):
                self.assertEqual(ask_of(weights[:count], (), EVEN), [self.ALIKE[count]])

    def test_what_is_had_does_not_matter(self):
        for had in choices(4):
            self.assertEqual(ask_of((4, 9, 1, 20), had, EVEN), [self.ALIKE[4]])

    def test_follows_the_kinds(self):
        self.assertEqual(ask_of((), (), EVEN, kind(20), EVEN, kind(1), EVEN, BEGIN, EVEN),
                         [[0, 0, 1], [0], [0, 1, 1], [1], [0, 3, 1], [0], [0, 0, 1]])

    def test_is_never_above_mean_from_nothing_and_like_it_only_with_alike_weights(self):
        some = [weights for count in (1, 2, 3, 4) for weights in product((1, 2, 19, 20), repeat=count)]
        for weights in some + list(SIX_KINDS):
            even, mean = [as_fraction(told) for told in ask_of(weights, (), EVEN, meanfrom(0))]
            if len(set(weights)) == 1:
                self.assertEqual(even, mean)
            else:
                self.assertLess(even, mean)


class More(unittest.TestCase):
    def test_no_kinds(self):
        self.assertEqual(ask(BEGIN, more(1), more(20)), [[0], [0, 1, 1], [0, 1, 1]])

    def test_by_hand(self):
        # Both lacking: 3 and 3/2 draws less 1; with the first had the new one alone is waited for.
        self.assertEqual(ask_of((1,), (), more(2), got(0), more(2)), [[0, 7, 2], [0], [0, 3, 2]])

    def test_nothing_lacking(self):
        self.assertEqual(ask_of((1, 20), (0, 1), more(1), more(20), more(7)), [[0, 22, 1], [0, 41, 20], [0, 4, 1]])

    def test_bounds_of_the_weight(self):
        self.assertEqual(ask_of((3,), (0,), more(0), more(21), more(GREATEST), more(1), more(20)),
                         [[-22], [-22], [-22], [0, 4, 1], [0, 23, 20]])
        self.assertEqual(ask_of((), (), more(0), more(21), more(GREATEST)), [[-22]] * 3)

    def test_a_seventh_is_refused(self):
        for had in ((), (2,), (0, 1, 2, 3, 4, 5)):
            self.assertEqual(ask_of((1, 2, 3, 4, 5, 6), had, more(1), more(20)), [[-28], [-28]])

    def test_a_seventh_of_wrong_weight_is_refused_for_its_weight(self):
        self.assertEqual(ask_of((1, 2, 3, 4, 5, 6), (), more(0), more(21), more(GREATEST)), [[-22], [-22], [-22]])

    def test_changes_nothing(self):
        # 12/3 and 12/5 draws are waited for, less 12/8 for either.
        self.assertEqual(ask_of((3, 4), (1,), more(5), TOLD, MEAN, EVEN, kind(6), TOLD),
                         [[0, 49, 10], [2, 2, 3, 4], [0, 7, 3], [0, 3, 1], [2], [3, 2, 3, 4, 6]])

    def test_is_as_mean_with_that_kind(self):
        for weights in ((), (20,), (1, 1), (3, 20, 1), (9, 4, 4, 1), (20, 1, 2, 3, 19)):
            for had in choices(len(weights)):
                for weight in (1, 6, 20):
                    asked, number, mean = ask_of(weights, had, more(weight), kind(weight), MEAN)
                    self.assertEqual(asked, mean)
                    self.assertEqual(asked, as_told(mean_by_choices((*weights, weight), had)))


if __name__ == "__main__":
    unittest.main()
