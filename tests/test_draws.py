"""Point 3: allby, at, half, next."""

import unittest
from fractions import Fraction
from itertools import product

from asking import (BEGIN, GREATEST, HALF, NEXT, allby, allby_by_choices, as_told, ask, ask_of, at, choices,
                    ends_by_rows, got, kind, lost)

SIX_KINDS = ((1, 1, 1, 1, 1, 1), (1, 20, 20, 20, 20, 20), (20, 1, 1, 1, 1, 1), (7, 11, 13, 17, 19, 20))
SOME_HAD = ((), (0,), (5,), (1, 3), (0, 2, 4), (1, 2, 3, 4, 5), (0, 1, 2, 3, 4), (0, 1, 2, 3, 4, 5))


class AllBy(unittest.TestCase):
    def test_by_hand(self):
        asked = ask_of((1, 2), (), allby(0), allby(1), allby(2), allby(3))
        self.assertEqual(asked, [[0, 0, 1], [0, 0, 1], [0, 4, 9], [0, 2, 3]])

    def test_one_lacking_by_hand(self):
        asked = ask_of((1, 20), (1,), allby(0), allby(1), allby(2))
        self.assertEqual(asked, [[0, 0, 1], [0, 1, 21], [0, 41, 441]])

    def test_one_kind(self):
        self.assertEqual(ask_of((20,), (), allby(0), allby(1), allby(20)), [[0, 0, 1], [0, 1, 1], [0, 1, 1]])

    def test_nothing_lacking_is_certain(self):
        self.assertEqual(ask_of((1, 20), (0, 1), allby(0), allby(1), allby(20)), [[0, 1, 1]] * 3)

    def test_too_few_draws(self):
        self.assertEqual(ask_of((1, 2, 3, 4, 5, 6), (), allby(5)), [[0, 0, 1]])
        self.assertEqual(ask_of((1, 1, 1, 1, 1, 1), (), allby(6)), [as_told(Fraction(720, 6 ** 6))])

    def test_over_all_rows(self):
        for count in (1, 2, 3):
            for weights in product((1, 2, 20), repeat=count):
                for had in choices(count):
                    ends = ends_by_rows(weights, had, 4)
                    asked = ask_of(weights, had, *[allby(n) for n in range(5)])
                    self.assertEqual(asked, [as_told(sum(ends[:n + 1])) for n in range(5)])

    def test_by_choices_up_to_twenty_draws(self):
        for weights in SIX_KINDS:
            for had in SOME_HAD:
                asked = ask_of(weights, had, *[allby(n) for n in range(21)])
                self.assertEqual(asked, [as_told(allby_by_choices(weights, had, n)) for n in range(21)])

    def test_twenty_draws_are_not_rounded(self):
        self.assertEqual(ask_of((1, 20), (1,), allby(20)), [[0, 21 ** 20 - 20 ** 20, 21 ** 20]])

    def test_refusals(self):
        self.assertEqual(ask_of((3, 4), (), allby(21), allby(GREATEST)), [[-22], [-22]])
        self.assertEqual(ask_of((3,), (0,), allby(21)), [[-22]])

    def test_no_kinds_comes_first(self):
        self.assertEqual(ask(BEGIN, allby(0), allby(20), allby(21), allby(GREATEST)), [[0], [-6], [-6], [-6], [-6]])


class At(unittest.TestCase):
    def test_by_hand(self):
        asked = ask_of((1, 2), (), at(1), at(2), at(3))
        self.assertEqual(asked, [[0, 0, 1], [0, 4, 9], [0, 2, 9]])

    def test_one_lacking_by_hand(self):
        asked = ask_of((1, 20), (1,), at(1), at(2), at(20))
        self.assertEqual(asked, [[0, 1, 21], [0, 20, 441], [0, 20 ** 19, 21 ** 20]])

    def test_one_kind(self):
        self.assertEqual(ask_of((1,), (), at(1), at(2), at(20)), [[0, 1, 1], [0, 0, 1], [0, 0, 1]])

    def test_nothing_lacking_was_so_before(self):
        self.assertEqual(ask_of((1, 20), (0, 1), at(1), at(2), at(20)), [[0, 0, 1]] * 3)

    def test_over_all_rows(self):
        for count in (1, 2, 3):
            for weights in product((1, 2, 20), repeat=count):
                for had in choices(count):
                    ends = ends_by_rows(weights, had, 4)
                    asked = ask_of(weights, had, *[at(n) for n in range(1, 5)])
                    self.assertEqual(asked, [as_told(end) for end in ends[1:]])

    def test_by_choices_up_to_twenty_draws(self):
        for weights in SIX_KINDS:
            for had in SOME_HAD:
                likely = [allby_by_choices(weights, had, n) for n in range(21)]
                asked = ask_of(weights, had, *[at(n) for n in range(1, 21)])
                self.assertEqual(asked, [as_told(likely[n] - likely[n - 1]) for n in range(1, 21)])

    def test_refusals(self):
        self.assertEqual(ask_of((3, 4), (), at(0), at(21), at(GREATEST)), [[-22], [-22], [-22]])
        self.assertEqual(ask_of((3,), (0,), at(0), at(21)), [[-22], [-22]])

    def test_no_kinds_comes_first(self):
        self.assertEqual(ask(BEGIN, at(0), at(1), at(20), at(21), at(GREATEST)), [[0]] + [[-6]] * 5)


class Half(unittest.TestCase):
    def test_no_kinds(self):
        self.assertEqual(ask(BEGIN, HALF), [[0], [-6]])

    def test_one_kind(self):
        self.assertEqual(ask_of((20,), (), HALF, got(0), HALF, lost(0), HALF), [[1], [0], [0], [1], [1]])

    def test_nothing_lacking(self):
        self.assertEqual(ask_of((1, 20, 1), (0, 1, 2), HALF), [[0]])

    def test_just_as_likely_as_not_is_enough(self):
        self.assertEqual(ask_of((7, 7), (0,), HALF), [[1]])
        self.assertEqual(ask_of((7, 7), (), HALF), [[2]])
        self.assertEqual(ask_of((3, 2, 1), (1, 2), HALF), [[1]])

    def test_by_hand(self):
        self.assertEqual(ask_of((1, 2), (), HALF), [[3]])
        # 20/21 to the power of 14 is above 1/2, to the power of 15 below.
        self.assertEqual(ask_of((1, 20), (1,), HALF), [[15]])
        self.assertEqual(ask_of((1, 20), (0,), HALF), [[1]])
        # A die shows all its faces within 12 throws in 0.438 of all cases, within 13 in 0.514.
        self.assertEqual(ask_of((1,) * 6, (), HALF), [[13]])

    def test_more_than_twenty_draws(self):
        # 100/101 to the power of 69 is above 1/2, to the power of 70 below.
        self.assertEqual(ask_of((1, 20, 20, 20, 20, 20), (1, 2, 3, 4, 5), HALF), [[70]])

    def test_by_choices(self):
        some = SIX_KINDS + ((1, 1, 20, 20, 20, 20), (20, 20, 20, 1, 1, 1), (2, 2, 1, 9, 20, 6))
        for weights in some:
            for had in SOME_HAD:
                told = ask_of(weights, had, HALF)[0][0]
                self.assertGreaterEqual(allby_by_choices(weights, had, told), Fraction(1, 2))
                if told > 0:
                    self.assertLess(allby_by_choices(weights, had, told - 1), Fraction(1, 2))

    def test_by_choices_for_small_weights(self):
        for count in (1, 2, 3):
            for weights in product((1, 2, 3, 20), repeat=count):
                for had in choices(count):
                    least = 0
                    while allby_by_choices(weights, had, least) < Fraction(1, 2):
                        least += 1
                    self.assertEqual(ask_of(weights, had, HALF), [[least]])


class Next(unittest.TestCase):
    def test_no_kinds(self):
        self.assertEqual(ask(BEGIN, NEXT), [[0], [-6]])
        self.assertEqual(ask_of((3,), (), BEGIN, NEXT), [[0], [-6]])

    def test_one_kind(self):
        self.assertEqual(ask_of((20,), (), NEXT, got(0), NEXT, lost(0), NEXT),
                         [[0, 1, 1], [0], [0, 0, 1], [1], [0, 1, 1]])

    def test_all_or_nothing_lacking(self):
        self.assertEqual(ask_of((1, 20, 3), (), NEXT), [[0, 1, 1]])
        self.assertEqual(ask_of((1, 20, 3), (0, 1, 2), NEXT), [[0, 0, 1]])

    def test_by_hand(self):
        self.assertEqual(ask_of((1, 20), (1,), NEXT), [[0, 1, 21]])
        self.assertEqual(ask_of((1, 20), (0,), NEXT), [[0, 20, 21]])
        self.assertEqual(ask_of((2, 4, 6), (1,), NEXT, got(0), NEXT, kind(12), NEXT),
                         [[0, 2, 3], [1], [0, 1, 2], [3], [0, 3, 4]])

    def test_draw_by_draw(self):
        for weights in SIX_KINDS:
            for had in choices(6):
                drawn = [i for i, w in enumerate(weights) for time in range(w)]
                new = [i for i in drawn if i not in had]
                self.assertEqual(ask_of(weights, had, NEXT), [as_told(Fraction(len(new), len(drawn)))])

    def test_with_one_lacking_is_as_all_there_behind_one_draw(self):
        for missing in range(6):
            had = [i for i in range(6) if i != missing]
            asked = ask_of((7, 11, 13, 17, 19, 20), had, NEXT, allby(1))
            self.assertEqual(asked[0], asked[1])


if __name__ == "__main__":
    unittest.main()
