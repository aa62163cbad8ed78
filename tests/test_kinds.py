"""Point 1: begin, kind, got, lost, lacking, told."""

import unittest

from asking import (BEGIN, GREATEST, HALF, LACKING, MEAN, TOLD, allby, ask, ask_of, begun, choices, got, kind, lost,
                    mask, meanfrom, without)


class Begin(unittest.TestCase):
    def test_answers_nothing_but_0(self):
        self.assertEqual(ask(BEGIN), [[0]])

    def test_there_are_no_kinds(self):
        self.assertEqual(ask(BEGIN, got(0), lost(0), HALF, meanfrom(1)), [[0], [-2], [-2], [-6], [-22]])

    def test_again_there_are_no_kinds(self):
        self.assertEqual(ask_of((3, 4), (0,), BEGIN, got(0), lost(0), MEAN, HALF),
                         [[0], [-2], [-2], [0, 0, 1], [-6]])

    def test_again_numbers_start_from_0_and_nothing_is_had(self):
        self.assertEqual(ask_of((3, 4), (0, 1), BEGIN, kind(5), lost(0), MEAN, kind(5), lost(1)),
                         [[0], [0], [-6], [0, 1, 1], [1], [-6]])

    def test_again_after_six_kinds_there_is_room(self):
        self.assertEqual(ask_of((1,) * 6, (), kind(1), BEGIN, kind(1)), [[-28], [0], [0]])

    def test_twice_in_a_row(self):
        self.assertEqual(ask(BEGIN, BEGIN, kind(1)), [[0], [0], [0]])


class Kind(unittest.TestCase):
    def test_answers_its_number(self):
        self.assertEqual(ask(*begun((5, 1, 20, 7, 7, 2))), [[0], [0], [1], [2], [3], [4], [5]])

    def test_bounds_of_the_weight(self):
        self.assertEqual(ask_of((), (), kind(0), kind(1), kind(20), kind(21), kind(GREATEST)),
                         [[-22], [0], [1], [-22], [-22]])

    def test_a_seventh_is_refused(self):
        self.assertEqual(ask_of((1, 2, 3, 4, 5, 6), (), kind(1), kind(20)), [[-28], [-28]])

    def test_a_seventh_of_wrong_weight_is_refused_for_its_weight(self):
        self.assertEqual(ask_of((1, 2, 3, 4, 5, 6), (), kind(0), kind(21), kind(GREATEST)), [[-22], [-22], [-22]])

    def test_a_new_one_is_lacking(self):
        self.assertEqual(ask_of((3,), (0,), MEAN, kind(3), lost(1), MEAN, got(1)),
                         [[0, 0, 1], [1], [-6], [0, 2, 1], [0]])

    def test_those_that_are_had_stay_so(self):
        self.assertEqual(ask_of((3, 4), (1,), kind(5), got(1), got(0), got(2)), [[2], [-17], [1], [0]])


class Got(unittest.TestCase):
    def test_answers_how_many_are_lacking(self):
        self.assertEqual(ask_of((1, 2, 3, 4, 5, 6), (), got(3), got(0), got(5), got(1), got(2), got(4)),
                         [[5], [4], [3], [2], [1], [0]])

    def test_no_such_kind(self):
        self.assertEqual(ask_of((1, 2), (), got(2), got(32), got(GREATEST), got(1)), [[-2], [-2], [-2], [1]])

    def test_no_such_kind_of_none(self):
        self.assertEqual(ask_of((), (), got(0), got(GREATEST)), [[-2], [-2]])

    def test_no_such_kind_of_six(self):
        self.assertEqual(ask_of((1,) * 6, (), got(6), got(5)), [[-2], [5]])

    def test_had_already(self):
        self.assertEqual(ask_of((1, 2), (1,), got(1), got(0), got(0), got(1)), [[-17], [0], [-17], [-17]])


class Lost(unittest.TestCase):
    def test_answers_how_many_are_lacking(self):
        self.assertEqual(ask_of((1, 2, 3), (0, 1, 2), lost(1), lost(2), lost(0)), [[1], [2], [3]])

    def test_no_such_kind(self):
        self.assertEqual(ask_of((1, 2), (0, 1), lost(2), lost(GREATEST), lost(1)), [[-2], [-2], [1]])

    def test_no_such_kind_of_none(self):
        self.assertEqual(ask_of((), (), lost(0), lost(GREATEST)), [[-2], [-2]])

    def test_lacking_already(self):
        self.assertEqual(ask_of((1, 2), (0,), lost(1), lost(0), lost(0)), [[-6], [2], [-6]])

    def test_all_lost_again_is_as_at_first(self):
        asked = (TOLD, LACKING, MEAN, HALF, allby(7), allby(20), meanfrom(0), got(2), got(2))
        at_first = ask_of((2, 9, 20), (), *asked)
        lost_again = ask_of((2, 9, 20), (0, 2, 1), lost(2), lost(1), lost(0), *asked)
        self.assertEqual(lost_again[3:], at_first)

    def test_got_lost_and_got_again(self):
        self.assertEqual(ask_of((1, 1), (), got(0), lost(0), got(0), lost(1), got(1), lost(0)),
                         [[1], [2], [1], [-6], [0], [1]])


class Lacking(unittest.TestCase):
    def test_no_kinds(self):
        self.assertEqual(ask(BEGIN, LACKING), [[0], [0]])

    def test_one_kind(self):
        self.assertEqual(ask_of((20,), (), LACKING, got(0), LACKING, lost(0), LACKING), [[1, 0], [0], [0], [1], [1, 0]])

    def test_by_hand(self):
        self.assertEqual(ask_of((9, 1, 20, 4), (2, 0), LACKING, lost(2), LACKING, got(3), LACKING),
                         [[2, 1, 3], [3], [3, 1, 2, 3], [2], [2, 1, 2]])

    def test_rising_whatever_came_first(self):
        self.assertEqual(ask_of((1,) * 6, (0, 1, 2, 3, 4, 5), lost(4), lost(0), lost(2), LACKING)[3], [3, 0, 2, 4])

    def test_a_new_one_is_among_them(self):
        self.assertEqual(ask_of((7, 8), (0, 1), LACKING, kind(9), LACKING), [[0], [2], [1, 2]])

    def test_each_choice_of_six(self):
        for had in choices(6):
            lacking = without(6, had)
            self.assertEqual(ask_of((6, 5, 4, 3, 2, 1), had, LACKING), [[len(lacking)] + lacking])


class Told(unittest.TestCase):
    def test_no_kinds(self):
        self.assertEqual(ask(BEGIN, TOLD), [[0], [0, 0]])

    def test_one_kind(self):
        self.assertEqual(ask_of((20,), (), TOLD, got(0), TOLD, lost(0), TOLD),
                         [[1, 0, 20], [0], [1, 1, 20], [1], [1, 0, 20]])

    def test_by_hand(self):
        self.assertEqual(ask_of((9, 1, 20, 4), (2, 0), TOLD, got(3), TOLD, lost(0), TOLD),
                         [[4, 5, 9, 1, 20, 4], [1], [4, 13, 9, 1, 20, 4], [2], [4, 12, 9, 1, 20, 4]])

    def test_begun_again(self):
        self.assertEqual(ask_of((9, 1), (0, 1), TOLD, BEGIN, TOLD, kind(5), TOLD),
                         [[2, 3, 9, 1], [0], [0, 0], [0], [1, 0, 5]])

    def test_each_choice_of_six(self):
        for had in choices(6):
            self.assertEqual(ask_of((6, 5, 4, 3, 2, 1), had, TOLD), [[6, mask(had), 6, 5, 4, 3, 2, 1]])

    def test_what_refused_calls_leave(self):
        self.assertEqual(ask_of((3, 4), (1,), kind(0), kind(21), got(1), got(2), lost(0), lost(2), TOLD)[6],
                         [2, 2, 3, 4])
        self.assertEqual(ask_of((1,) * 6, (), kind(20), TOLD), [[-28], [6, 0, 1, 1, 1, 1, 1, 1]])


if __name__ == "__main__":
    unittest.main()
