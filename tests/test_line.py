"""The interface and what stands ahead of the promises: the one list of calls, and refusals."""

import builtins
import os
import subprocess
import sys
import unittest
from math import gcd
from unittest import mock

from albumkinds.album import answers
from asking import (BEGIN, BEST, EVEN, GREATEST, HALF, LACKING, MEAN, NEXT, RAREST, TOLD, allby, ask, ask_of, at,
                    begun, choices, flat, got, kind, last, lost, mask, meanfrom, more, worth)

TOP = os.path.dirname(os.path.dirname(os.path.abspath(__file__)))

ALL_BUT_BEGIN = (kind(1), kind(0), kind(GREATEST), got(0), got(GREATEST), lost(0), lost(GREATEST), MEAN, meanfrom(0),
                 meanfrom(GREATEST), allby(0), allby(20), allby(21), allby(GREATEST), at(0), at(1), at(21),
                 at(GREATEST), HALF, last(0), last(GREATEST), worth(0), worth(GREATEST), BEST, EVEN, NEXT, LACKING,
                 RAREST, more(0), more(1), more(20), more(21), more(GREATEST), TOLD)

LONG_LINE = flat([TOLD, more(3)] + begun((3, 1, 20), (1,)) +
                 [MEAN, meanfrom(5), last(0), last(1), worth(2), worth(3), BEST, RAREST, NEXT, allby(20), at(3), EVEN,
                  HALF, LACKING, got(1), lost(1), lost(1), kind(0), more(6), kind(6), more(0), TOLD, at(0), BEGIN,
                  MEAN, TOLD, BEST, NEXT, LACKING, HALF, kind(20), EVEN])

# Every call that only looks, with arguments that are answered and such that are refused.
LOOKS = (MEAN, *[meanfrom(m) for m in (0, 1, 5, 64, GREATEST)], *[allby(n) for n in (0, 3, 20, 21)],
         *[at(n) for n in (0, 1, 20, 21)], HALF, *[last(i) for i in (0, 1, 5, 6, GREATEST)],
         *[worth(i) for i in (0, 1, 5, 6, GREATEST)], BEST, EVEN, NEXT, LACKING, RAREST,
         *[more(w) for w in (0, 1, 20, 21, GREATEST)], TOLD)


class Untouched(list):
    """A list that may be read alone."""

    def refuse(self, *arguments, **named):
        raise AssertionError("the list was changed")

    append = extend = insert = pop = remove = clear = sort = reverse = refuse
    __setitem__ = __delitem__ = __iadd__ = __imul__ = refuse


class OneList(unittest.TestCase):
    def test_each_answer_has_its_length_before_it(self):
        line = [0, 1, 1, 1, 2, 4, 2, 0, 8, 7, 2, 6, 2, 5, 0, 3, 0, 3, 0, 4]
        self.assertEqual(answers(line), [
            1, 0,
            1, 0,
            1, 1,
            3, 0, 7, 2,
            1, 1,
            1, 1,
            3, 0, 2, 9,
            3, 0, 8, 9,
            3, 0, 7, 2,
            1, 2,
            1, -6,
            3, 0, 7, 2,
        ])

    def test_arguments_are_not_taken_for_calls(self):
        # Lacking are weights of 8 and 4, of 16: 2 and 4 draws are waited for, less 4/3 for either.
        self.assertEqual(ask_of((4, 8, 4), (), got(0), allby(4), at(8), kind(0), MEAN)[3:], [[-22], [0, 14, 3]])

    def test_arguments_are_passed_over_ahead_of_a_begin(self):
        self.assertEqual(answers([1, 0, 2, 0, 3, 0, 5, 0, 6, 0, 7, 0, 9, 0, 10, 0, 16, 0, 0]), [1, -11] * 9 + [1, 0])
        self.assertEqual(answers([4, 8, 11, 12, 13, 14, 15, 17, 0]), [1, -11] * 8 + [1, 0])

    def test_each_answer_of_the_later_calls_has_its_length_before_it(self):
        line = [0, 1, 1, 1, 2, 9, 0, 10, 0, 11, 12, 13, 14, 15, 16, 3, 17, 2, 0, 14, 17, 9, 0, 10, 2, 13, 0, 14, 17]
        self.assertEqual(answers(line), [
            1, 0,
            1, 0,
            1, 1,
            3, 0, 2, 3,
            3, 0, 2, 1,
            1, 0,
            3, 0, 3, 1,
            3, 0, 1, 1,
            3, 2, 0, 1,
            1, 0,
            3, 0, 73, 10,
            4, 2, 0, 1, 2,
            1, 1,
            2, 1, 1,
            4, 2, 1, 1, 2,
            1, -17,
            1, -2,
            3, 0, 2, 3,
            1, 0,
            1, 0,
            2, 0, 0,
        ])

    def test_arguments_of_the_later_calls_are_not_taken_for_calls(self):
        asked = ask_of((4, 8, 4), (), last(0), worth(0), more(0), last(17), worth(14), more(11), TOLD)
        self.assertEqual(asked[2:5] + asked[6:], [[-22], [-2], [-2], [3, 0, 4, 8, 4]])

    def test_eighty_calls_of_both_stages(self):
        before = begun((6, 1, 20, 1), (2,))
        changes = (got(1), lost(2), kind(9), lost(1), got(0), kind(5))
        line = list(before)
        for change in changes:
            line += [TOLD, BEST, last(3), MEAN, more(20), NEXT, allby(20), worth(3), LACKING, EVEN, HALF, change]
        line += [RAREST, at(20)]
        self.assertEqual(len(line), 80)
        told = ask(*line)
        self.assertEqual(told[6:78:12], [[4, 4, 6, 1, 20, 1], [4, 6, 6, 1, 20, 1], [4, 2, 6, 1, 20, 1],
                                         [5, 2, 6, 1, 20, 1, 9], [5, 0, 6, 1, 20, 1, 9], [5, 1, 6, 1, 20, 1, 9]])
        self.assertEqual(told[78], [1])
        for place, call in enumerate(line):
            changed = [one for one in line[:place] if one in before or one in changes]
            self.assertEqual(told[place], ask(*changed, call)[-1], (place, call))

    def test_calls_of_both_stages_in_any_order(self):
        together = ask_of((5, 2, 9), (1,), *LOOKS)
        backwards = ask_of((5, 2, 9), (1,), *reversed(LOOKS))
        self.assertEqual(together, backwards[::-1])
        for place, call in enumerate(LOOKS):
            self.assertEqual(ask_of((5, 2, 9), (1,), call), [together[place]])

    def test_eighty_calls(self):
        line = begun((1, 1, 20, 20, 20, 20)) + [HALF] * 73
        self.assertEqual(len(line), 80)
        told = ask(*line)[7:]
        self.assertEqual(told, [told[0]] * 73)

    def test_one_hundred_and_sixty_numbers(self):
        line = [BEGIN, MEAN] + [kind(2)] * 6 + [allby(20)] * 71 + [at(20)]
        self.assertEqual(len(line), 80)
        self.assertEqual(len(ask(*line)), 80)

    def test_all_are_plain_whole_numbers(self):
        told = answers(list(LONG_LINE))
        self.assertIs(type(told), list)
        for number in told:
            self.assertIs(type(number), int)

    def test_fractions_are_in_lowest_terms(self):
        for weights in ((2, 4, 6), (20,) * 6, (10, 5, 20, 20, 15, 1)):
            for had in ((), (0,), (0, 1), (0, 1, 2)):
                asked = [MEAN, EVEN, NEXT] + [allby(n) for n in range(21)] + [at(n) for n in range(1, 21)]
                asked += [last(i) for i in range(len(had), len(weights))]
                asked += [worth(i) for i in range(len(had), len(weights))]
                asked += [more(w) for w in (1, 10, 20) if len(weights) < 6]
                for zero, above, below in ask_of(weights, had, *asked):
                    self.assertEqual(zero, 0)
                    self.assertGreaterEqual(above, 0)
                    self.assertGreaterEqual(below, 1)
                    self.assertEqual(gcd(above, below), 1)


class AheadOfBegin(unittest.TestCase):
    def test_each_call_is_refused(self):
        for call in ALL_BUT_BEGIN:
            self.assertEqual(ask(call), [[-11]], call)

    def test_all_in_a_row_are_refused_and_change_nothing(self):
        told = ask(*ALL_BUT_BEGIN, BEGIN, TOLD, MEAN, kind(3), MEAN, TOLD)
        self.assertEqual(told, [[-11]] * len(ALL_BUT_BEGIN) + [[0], [0, 0], [0, 0, 1], [0], [0, 1, 1], [1, 0, 3]])

    def test_every_call_but_begin_is_among_them(self):
        self.assertEqual({call[0] for call in ALL_BUT_BEGIN}, set(range(1, 18)))

    def test_a_new_list_is_a_new_object(self):
        answers(flat(begun((1, 2))))
        self.assertEqual(ask(MEAN), [[-11]])
        self.assertEqual(ask(TOLD), [[-11]])


class BegunAgain(unittest.TestCase):
    def test_is_as_begun_for_the_first_time(self):
        self.assertEqual(ask_of((1, 2, 3, 4, 5, 20), (0, 3, 5), BEGIN, *LOOKS)[1:], ask_of((), (), *LOOKS))
        line = (kind(4), got(0), kind(5), *LOOKS)
        self.assertEqual(ask_of((1, 2, 20), (0, 1, 2), BEGIN, *line)[1:], ask_of((), (), *line))


class LooksChangeNothing(unittest.TestCase):
    def test_told_before_and_behind_them(self):
        for weights in ((), (20,), (1, 20), (3, 3, 8), (1, 2, 3, 4, 5, 20)):
            for had in choices(len(weights)):
                state = [len(weights), mask(had), *weights]
                for call in LOOKS:
                    told = ask_of(weights, had, TOLD, call, TOLD)
                    self.assertEqual((told[0], told[2]), (state, state), call)

    def test_all_in_a_row_asked_twice_are_answered_alike(self):
        for weights, had in (((), ()), ((7,), ()), ((7,), (0,)), ((4, 1, 1), (1,)), ((2, 4, 6, 8, 10, 12), (0, 5))):
            told = ask_of(weights, had, *LOOKS, *LOOKS)
            self.assertEqual(told[:len(LOOKS)], told[len(LOOKS):])


class RefusalsChangeNothing(unittest.TestCase):
    def assert_changes_nothing(self, weights, had, call, refusal):
        behind = (*LOOKS, kind(9), got(0), lost(1), TOLD, MEAN)
        told = ask_of(weights, had, call, *behind)
        self.assertEqual(told[0], [refusal])
        self.assertEqual(told[1:], ask_of(weights, had, *behind))

    def test_with_no_kinds(self):
        for call, refusal in ((kind(0), -22), (kind(21), -22), (got(0), -2), (lost(0), -2), (meanfrom(1), -22),
                              (allby(0), -6), (at(1), -6), (HALF, -6), (last(0), -2), (worth(0), -2), (BEST, -33),
                              (NEXT, -6), (RAREST, -33), (more(0), -22), (more(21), -22)):
            self.assert_changes_nothing((), (), call, refusal)

    def test_with_some_had(self):
        for call, refusal in ((kind(0), -22), (kind(GREATEST), -22), (got(2), -2), (got(1), -17), (lost(2), -2),
                              (lost(0), -6), (meanfrom(4), -22), (allby(21), -22), (at(0), -22), (at(21), -22),
                              (last(2), -2), (last(GREATEST), -2), (last(1), -17), (worth(2), -2),
                              (worth(GREATEST), -2), (worth(1), -17), (more(0), -22), (more(GREATEST), -22)):
            self.assert_changes_nothing((5, 8), (1,), call, refusal)

    def test_with_six_kinds(self):
        for call, refusal in ((kind(5), -28), (kind(0), -22), (got(6), -2), (lost(6), -2), (got(1), -17),
                              (lost(5), -6), (meanfrom(64), -22), (last(6), -2), (last(2), -17), (worth(6), -2),
                              (worth(2), -17), (more(5), -28), (more(0), -22), (more(21), -22)):
            self.assert_changes_nothing((1, 2, 3, 4, 5, 20), (1, 2), call, refusal)

    def test_with_nothing_lacking(self):
        for call, refusal in ((got(1), -17), (last(0), -17), (last(2), -2), (worth(1), -17), (worth(2), -2),
                              (BEST, -33), (RAREST, -33), (more(0), -22)):
            self.assert_changes_nothing((5, 8), (1, 0), call, refusal)


class NothingIsKept(unittest.TestCase):
    def test_what_is_handed_in_is_left_as_it_was(self):
        line = list(LONG_LINE)
        answers(line)
        self.assertEqual(line, LONG_LINE)

    def test_what_is_handed_in_is_not_changed_for_a_while_either(self):
        self.assertEqual(answers(Untouched(LONG_LINE)), answers(list(LONG_LINE)))

    def test_asked_twice_is_answered_alike(self):
        line = list(LONG_LINE)
        first = answers(line)
        kept = list(first)
        self.assertEqual(answers(line), kept)
        self.assertEqual(first, kept)

    def test_another_line_between_does_not_matter(self):
        first = answers(list(LONG_LINE))
        answers(flat(begun((20, 19, 18, 17, 16, 15), (0, 1, 2))))
        self.assertEqual(answers(list(LONG_LINE)), first)

    def test_an_answer_that_is_changed_does_not_matter(self):
        first = answers(list(LONG_LINE))
        kept = list(first)
        first.clear()
        self.assertEqual(answers(list(LONG_LINE)), kept)


class NothingElseIsDone(unittest.TestCase):
    def test_nothing_is_printed_read_or_imported_when_asked(self):
        expected = answers(list(LONG_LINE))
        refused = mock.Mock(side_effect=AssertionError("not asked for"))
        with mock.patch.object(sys, "stdout", None), mock.patch.object(sys, "stderr", None), \
                mock.patch.object(sys, "stdin", None), mock.patch.object(builtins, "print", refused), \
                mock.patch.object(builtins, "input", refused), mock.patch.object(builtins, "open", refused), \
                mock.patch.object(builtins, "__import__", refused):
            told = answers(list(LONG_LINE))
        self.assertEqual(told, expected)

    def test_nothing_else_is_loaded_or_printed(self):
        code = ("import sys; before = set(sys.modules); import albumkinds.album; "
                "albumkinds.album.answers([0, 1, 2, 4, 8]); "
                "sys.exit(set(sys.modules) - before != {'albumkinds', 'albumkinds.album'})")
        done = subprocess.run([sys.executable, "-c", code], cwd=TOP, stdin=subprocess.DEVNULL, capture_output=True)
        self.assertEqual((done.returncode, done.stdout, done.stderr), (0, b"", b""))


if __name__ == "__main__":
    unittest.main()
