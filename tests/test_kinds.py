"""Point 1: begin, kind, got, lost."""

import unittest

from asking import BEGIN, GREATEST, HALF, MEAN, allby, ask, ask_of, begun, got, kind, lost, meanfrom


class Begin(unittest.TestCase):
    def test_answers_nothing_but_0(self):
        self.assertEqual(ask(BEGIN), [[0]])

    def test_there_are_no_kinds(self):
        self.assertEqual(ask(BEGIN, got(0), lost(0), HALF, meanfrom(1)), [[0], [-2], [-2], [-6], [-22]])

    def test_again_there_are_no_kinds(self):
        self.assertEqual(ask_of((3, 4), (0,), BEGIN, got(0), lost(0), MEAN, HALF),
                         [[0], [-2], [-2], [0, 0, 1], [-6]])

    def test_again_numbers_start_from_0_and_nothing_is_had(self):
        self.assertEqual(ask_of((3, 4), (0, 1), BEGIN, kind(5), lost(0), MEAN, kind(5), lost(1)),
                         [[0], [0], [-6], [0, 1, 1], [1], [-6]])

    def test_again_after_six_kinds_there_is_room(self):
        self.assertEqual(ask_of((1,) * 6, (), kind(1), BEGIN, kind(1)), [[-28], [0], [0]])

    def test_twice_in_a_row(self):
        self.assertEqual(ask(BEGIN, BEGIN, kind(1)), [[0], [0], [0]])


class Kind(unittest.TestCase):
    def test_answers_its_number(self):
        self.assertEqual(ask(*begun((5, 1, 20, 7, 7, 2))), [[0], [0], [1], [2], [3], [4], [5]])

    def test_bounds_of_the_weight(self):
        self.assertEqual(ask_of((), (), kind(0), kind(1), kind(20), kind(21), kind(GREATEST)),
                         [[-22], [0], [1], [-22], [-22]])

    def test_a_seventh_is_refused(self):
        self.assertEqual(ask_of((1, 2, 3, 4, 5, 6), (), kind(1), kind(20)), [[-28], [-28]])

    def test_a_seventh_of_wrong_weight_is_refused_for_its_weight(self):
        self.assertEqual(ask_of((1, 2, 3, 4, 5, 6), (), kind(0), kind(21), kind(GREATEST)), [[-22], [-22], [-22]])

    def test_a_new_one_is_lacking(self):
        self.assertEqual(ask_of((3,), (0,), MEAN, kind(3), lost(1), MEAN, got(1)),
                         [[0, 0, 1], [1], [-6], [0, 2, 1], [0]])

    def test_those_that_are_had_stay_so(self):
        self.assertEqual(ask_of((3, 4), (1,), kind(5), got(1), got(0), got(2)), [[2], [-17], [1], [0]])


class Got(unittest.TestCase):
    def test_answers_how_many_are_lacking(self):
        self.assertEqual(ask_of((1, 2, 3, 4, 5, 6), (), got(3), got(0), got(5), got(1), got(2), got(4)),
                         [[5], [4], [3], [2], [1], [0]])

    def test_no_such_kind(self):
        self.assertEqual(ask_of((1, 2), (), got(2), got(32), got(GREATEST), got(1)), [[-2], [-2], [-2], [1]])

    def test_no_such_kind_of_none(self):
        self.assertEqual(ask_of((), (), got(0), got(GREATEST)), [[-2], [-2]])

    def test_no_such_kind_of_six(self):
        self.assertEqual(ask_of((1,) * 6, (), got(6), got(5)), [[-2], [5]])

    def test_had_already(self):
        self.assertEqual(ask_of((1, 2), (1,), got(1), got(0), got(0), got(1)), [[-17], [0], [-17], [-17]])


class Lost(unittest.TestCase):
    def test_answers_how_many_are_lacking(self):
        self.assertEqual(ask_of((1, 2, 3), (0, 1, 2), lost(1), lost(2), lost(0)), [[1], [2], [3]])

    def test_no_such_kind(self):
        self.assertEqual(ask_of((1, 2), (0, 1), lost(2), lost(GREATEST), lost(1)), [[-2], [-2], [1]])

    def test_no_such_kind_of_none(self):
        self.assertEqual(ask_of((), (), lost(0), lost(GREATEST)), [[-2], [-2]])

    def test_lacking_already(self):
        self.assertEqual(ask_of((1, 2), (0,), lost(1), lost(0), lost(0)), [[-6], [2], [-6]])

    def test_all_lost_again_is_as_at_first(self):
        asked = (MEAN, HALF, allby(7), allby(20), meanfrom(0), got(2), got(2))
        at_first = ask_of((2, 9, 20), (), *asked)
        lost_again = ask_of((2, 9, 20), (0, 2, 1), lost(2), lost(1), lost(0), *asked)
        self.assertEqual(lost_again[3:], at_first)

    def test_got_lost_and_got_again(self):
        self.assertEqual(ask_of((1, 1), (), got(0), lost(0), got(0), lost(1), got(1), lost(0)),
                         [[1], [2], [1], [-6], [0], [1]])


if __name__ == "__main__":
    unittest.main()
