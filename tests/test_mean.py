"""Point 2: mean, meanfrom."""

import unittest
from fractions import Fraction
from itertools import product

from asking import (BEGIN, GREATEST, MEAN, as_told, ask, ask_of, choices, got, kind, lost, mask, mean_by_choices,
                    meanfrom)

SIX_KINDS = ((1, 1, 1, 1, 1, 1), (20,) * 6, (1, 20, 20, 20, 20, 20), (20, 1, 1, 1, 1, 1), (7, 11, 13, 17, 19, 20),
             (6, 5, 4, 3, 2, 1), (10, 10, 5, 5, 20, 20))


class Mean(unittest.TestCase):
    def test_no_kinds(self):
        self.assertEqual(ask(BEGIN, MEAN), [[0], [0, 0, 1]])

    def test_one_kind(self):
        for weight in (1, 7, 20):
            self.assertEqual(ask_of((weight,), (), MEAN, got(0), MEAN, lost(0), MEAN),
                             [[0, 1, 1], [0], [0, 0, 1], [1], [0, 1, 1]])

    def test_nothing_lacking(self):
        self.assertEqual(ask_of((3, 4, 5, 6, 7, 8), (0, 1, 2, 3, 4, 5), MEAN), [[0, 0, 1]])

    def test_one_lacking_waits_by_its_weight(self):
        self.assertEqual(ask_of((1, 20), (1,), MEAN), [[0, 21, 1]])
        self.assertEqual(ask_of((1, 20), (0,), MEAN), [[0, 21, 20]])
        self.assertEqual(ask_of((1, 20, 20, 20, 20, 20), (1, 2, 3, 4, 5), MEAN), [[0, 101, 1]])
        self.assertEqual(ask_of((6, 3, 3), (1, 2), MEAN), [[0, 2, 1]])

    def test_two_lacking_by_hand(self):
        # 3 draws of weight 1 and 3/2 of weight 2 are waited for, less 1 for either.
        self.assertEqual(ask_of((1, 2), (), MEAN), [[0, 7, 2]])
        self.assertEqual(ask_of((1, 20), (), MEAN), [[0, 421, 20]])

    def test_alike_kinds_by_hand(self):
        means = [as_told(1), as_told(3), [0, 11, 2], [0, 25, 3], [0, 137, 12], [0, 147, 10]]
        for count in range(1, 7):
            for weight in (1, 13, 20):
                self.assertEqual(ask_of((weight,) * count, (), MEAN), [means[count - 1]])

    def test_what_is_had_is_told_apart(self):
        self.assertEqual(ask_of((1, 2, 3), (0,), MEAN), [as_told(2 + 3 - Fraction(6, 5))])
        self.assertEqual(ask_of((1, 2, 3), (1,), MEAN), [as_told(6 + 2 - Fraction(6, 4))])
        self.assertEqual(ask_of((1, 2, 3), (2,), MEAN), [as_told(6 + 3 - Fraction(6, 3))])

    def test_by_choices_for_all_small_weights(self):
        for count in (1, 2, 3):
            for weights in product((1, 2, 3, 4, 19, 20), repeat=count):
                for had in choices(count):
                    self.assertEqual(ask_of(weights, had, MEAN), [as_told(mean_by_choices(weights, had))])

    def test_by_choices_for_six_kinds(self):
        for weights in SIX_KINDS:
            for had in choices(6):
                self.assertEqual(ask_of(weights, had, MEAN), [as_told(mean_by_choices(weights, had))])

    def test_is_one_more_than_behind_the_next_draw(self):
        for weights in SIX_KINDS:
            told = ask_of(weights, (), *[meanfrom(m) for m in range(64)])
            means = [Fraction(above, below) for zero, above, below in told]
            for m in range(63):
                behind = sum(w * means[m | 2 ** i] for i, w in enumerate(weights)) / sum(weights)
                self.assertEqual(means[m], 1 + behind)

    def test_from_nothing_only_alike_chances_are_soonest(self):
        for count, alike in ((2, Fraction(3)), (3, Fraction(11, 2))):
            for weights in product((1, 2, 3, 20), repeat=count):
                zero, above, below = ask_of(weights, (), MEAN)[0]
                if len(set(weights)) == 1:
                    self.assertEqual(Fraction(above, below), alike)
                else:
                    self.assertGreater(Fraction(above, below), alike)


class MeanFrom(unittest.TestCase):
    def test_no_kinds(self):
        self.assertEqual(ask(BEGIN, meanfrom(0), meanfrom(1), meanfrom(GREATEST)), [[0], [0, 0, 1], [-22], [-22]])

    def test_bound_for_each_count_of_kinds(self):
        for count in range(7):
            asked = ask_of((3,) * count, (), meanfrom(2 ** count - 1), meanfrom(2 ** count), meanfrom(GREATEST))
            self.assertEqual(asked, [[0, 0, 1], [-22], [-22]])

    def test_which_kinds_by_hand(self):
        self.assertEqual(ask_of((1, 2), (), meanfrom(0), meanfrom(1), meanfrom(2), meanfrom(3)),
                         [[0, 7, 2], [0, 3, 2], [0, 3, 1], [0, 0, 1]])

    def test_what_is_had_does_not_matter(self):
        asked = [meanfrom(m) for m in range(8)]
        for had in choices(3):
            self.assertEqual(ask_of((4, 9, 1), had, *asked), ask_of((4, 9, 1), (), *asked))

    def test_changes_nothing(self):
        self.assertEqual(ask_of((1, 2), (0,), meanfrom(2), MEAN, got(0), got(1)),
                         [[0, 3, 1], [0, 3, 2], [-17], [0]])

    def test_is_as_mean_with_just_these_had(self):
        weights = (20, 3, 8, 1, 5, 13)
        for had in choices(6):
            self.assertEqual(ask_of(weights, (), meanfrom(mask(had))), ask_of(weights, had, MEAN))

    def test_with_one_more_kind_more_is_allowed(self):
        self.assertEqual(ask_of((5,), (), meanfrom(2), kind(5), meanfrom(2), meanfrom(4)),
                         [[-22], [1], [0, 2, 1], [-22]])


if __name__ == "__main__":
    unittest.main()
