"""Tests over all four calls: what holds (a, b and c), and what the interface's last paragraphs promise."""

import contextlib
import inspect
import io
import itertools
import unittest
from unittest import mock

from levelgroups import groups as calls
from levelgroups.groups import best, even, few, looks

LARGEST = 4294967295
FUNCTIONS = {"looks": looks, "best": best, "even": even, "few": few}

NUMBERS = (0, 1, 2, 4, 9, 10, LARGEST)
MOSTS = (0, 1, 7, 1000, 1001, LARGEST)
ROWS = (
    [],
    [0],
    [1000],
    [1001],
    [LARGEST],
    [3, 1, 2, 2],
    [0, 9, 10, 19, 28],
    [5, 1001, 5],
    [1, 2, 3, 4, 5, 6, 7, 8, 9],
    [5] * 9,
    [5] * 10,
    [0] * 15,
)

# Of each function calls that are answered and refused in each way, and what they answer.
ANSWERED = (
    ("looks", [150, 80], 2, 3, [100, 7, 30, 77, 20, 50], [0, 1, 0, 1, 0, 1]),
    ("looks", [0, 0], 4, 2, [], []),
    ("looks", [-22], 2, 2, [9, 3, 4], [1, 0, 2]),
    ("looks", [-28], 2, 2, [9, 3, 4, 1], [1, 0, 1, 1]),
    ("best", [18, 2, 1, 3], 2, 3, [19, 0, 28, 10]),
    ("best", [0, 0], 4, 2, []),
    ("best", [-22], 1, 3, [30, 1001, 4]),
    ("best", [-33], 2, 2, [9, 3, 4, 1, 7]),
    ("even", [10, 2, 2, 2], 2, 3, [19, 0, 28, 10]),
    ("even", [0, 0], 4, 2, []),
    ("even", [-22], 1, 3, [30, 1001, 4]),
    ("even", [-33], 2, 2, [9, 3, 4, 1, 7]),
    ("few", [3], 2, 12, [40, 8, 44, 15, 3]),
    ("few", [0], 4, 2, []),
    ("few", [-22], 3, 1001, [9, 3, 4]),
)


def small_calls():
    """Numbers of groups, sizes and rows of a few children, out of order too."""
    for children in range(5):
        for levels in itertools.combinations_with_replacement((7, 0, 3, 12), children):
            for n, size in itertools.product(range(1, 5), repeat=2):
                yield n, size, list(levels)


def groupings_within(n, size, levels):
    """What looks tells of each grouping that it doesn't refuse."""
    groupings = itertools.product(range(n), repeat=len(levels))
    answers = [looks(n, size, levels, list(groups)) for groups in groupings]
    return [answer for answer in answers if answer != [-28]]


def groupings_to_ask(n, children):
    """Some groupings of so many children, right or not."""
    yield [0] * children
    yield [child % max(n, 1) for child in range(children)]
    yield [n] * children
    yield [0] * (children + 1) if children < 15 else []
    yield [0] * (children - 1) if children > 0 else [0]


def copies(values):
    """The values, each list among them copied."""
    return [list(value) if isinstance(value, list) else value for value in values]


def answer_of(name, values):
    return FUNCTIONS[name](*copies(values))


def row_is_wrong(levels):
    return len(levels) > 9 or max(levels, default=0) > 1000


def is_wrong(number):
    return number not in range(1, 10)


def refuse_change(*_, **__):
    raise AssertionError("what is handed in was changed")


def refuse_use(*_, **__):
    raise AssertionError("something was printed, read or imported")


class Unchanging(list):
    """A list that fails where it is changed, if for a while only."""

    append = clear = extend = insert = pop = remove = reverse = sort = refuse_change
    __setitem__ = __delitem__ = __iadd__ = __imul__ = refuse_change


class WhatHolds(unittest.TestCase):
    def test_a_no_grouping_is_less_than_the_pieces(self):
        for n, size, levels in small_calls():
            with self.subTest(n=n, size=size, levels=levels):
                for together, greatest in groupings_within(n, size, levels):
                    self.assertGreaterEqual(together, best(n, size, levels)[0])
                    self.assertGreaterEqual(greatest, even(n, size, levels)[0])

    def test_a_for_9_children(self):
        levels = [5, 90, 91, 0, 40, 44, 2, 39, 100]
        for size in (5, 6, 9):
            with self.subTest(size=size):
                answers = groupings_within(2, size, levels)
                self.assertEqual(min(together for together, _ in answers), best(2, size, levels)[0])
                self.assertEqual(min(greatest for _, greatest in answers), even(2, size, levels)[0])

    def test_a_of_the_two_kinds_of_pieces(self):
        for n, size, levels in small_calls():
            with self.subTest(n=n, size=size, levels=levels):
                told, likewise = best(n, size, levels), even(n, size, levels)
                self.assertEqual(told == [-33], likewise == [-33])
                self.assertGreaterEqual(told[0], likewise[0])

    def test_b_pieces_are_told_just_if_all_children_fit(self):
        for n, size, levels in small_calls():
            fit = groupings_within(n, size, levels) != []
            for pieces in (best(n, size, levels), even(n, size, levels)):
                with self.subTest(n=n, size=size, levels=levels, pieces=pieces):
                    self.assertEqual(pieces != [-33], fit)
                    if fit:
                        self.assertLessEqual(pieces[1], n)
                        self.assertEqual(sum(pieces[2:]), len(levels))
                        self.assertTrue(all(1 <= length <= size for length in pieces[2:]))

    def test_c_with_fewer_groups_some_spread_is_above_most(self):
        for n, size, levels in small_calls():
            answers = groupings_within(n, size, levels)
            for most in (0, 3, 4, 5, 11, 12):
                with self.subTest(n=n, size=size, most=most, levels=levels):
                    enough = any(greatest <= most for _, greatest in answers)
                    self.assertEqual(n >= few(size, most, levels)[0], enough)

    def test_c_for_9_children(self):
        levels = [5, 90, 91, 0, 40, 44, 2, 39, 100]
        for size in (5, 6, 9):
            with self.subTest(size=size):
                greatest = min(greatest for _, greatest in groupings_within(2, size, levels))
                self.assertEqual(few(size, greatest, levels), [2])
                self.assertEqual(few(size, greatest - 1, levels), [3])


class TheInterface(unittest.TestCase):
    PARAMETERS = {
        "looks": ["n", "size", "levels", "groups"],
        "best": ["n", "size", "levels"],
        "even": ["n", "size", "levels"],
        "few": ["size", "most", "levels"],
    }

    def test_the_functions_and_their_arguments(self):
        for name, expected in self.PARAMETERS.items():
            with self.subTest(name=name):
                function = getattr(calls, name)
                self.assertTrue(inspect.isfunction(function))
                self.assertEqual(function.__module__, "levelgroups.groups")
                parameters = inspect.signature(function).parameters.values()
                self.assertEqual([parameter.name for parameter in parameters], expected)
                for parameter in parameters:
                    self.assertIs(parameter.default, inspect.Parameter.empty)

    def test_arguments_by_name(self):
        self.assertEqual(looks(n=2, size=3, levels=[10, 15, 20, 26], groups=[0, 0, 1, 1]), [11, 6])
        self.assertEqual(best(n=2, size=3, levels=[10, 15, 20, 26]), [10, 2, 3, 1])
        self.assertEqual(even(n=2, size=3, levels=[10, 15, 20, 26]), [6, 2, 2, 2])
        self.assertEqual(few(size=3, most=6, levels=[10, 15, 20, 26]), [2])


class WhatIsAnswered(unittest.TestCase):
    def whole_numbers(self, answer):
        self.assertIs(type(answer), list)
        self.assertEqual([type(number) for number in answer], [int] * len(answer))

    def refused(self, answer, number):
        self.whole_numbers(answer)
        self.assertEqual(answer, [number])

    def told(self, answer):
        self.whole_numbers(answer)
        self.assertGreaterEqual(min(answer), 0)

    def test_looks_tells_two_numbers_or_a_refusal(self):
        for n, size, levels in itertools.product(NUMBERS, NUMBERS, ROWS):
            for groups in groupings_to_ask(n, len(levels)):
                with self.subTest(n=n, size=size, levels=levels, groups=groups):
                    answer = looks(n, size, list(levels), list(groups))
                    wrong_groups = len(groups) != len(levels) or any(group >= n for group in groups)
                    if row_is_wrong(levels) or is_wrong(n) or is_wrong(size) or wrong_groups:
                        self.refused(answer, -22)
                    elif any(groups.count(group) > size for group in groups):
                        self.refused(answer, -28)
                    else:
                        self.told(answer)
                        self.assertEqual(len(answer), 2)

    def test_best_and_even_tell_pieces_or_a_refusal(self):
        for function in (best, even):
            for n, size, levels in itertools.product(NUMBERS, NUMBERS, ROWS):
                with self.subTest(function=function.__name__, n=n, size=size, levels=levels):
                    answer = function(n, size, list(levels))
                    if row_is_wrong(levels) or is_wrong(n) or is_wrong(size):
                        self.refused(answer, -22)
                    elif len(levels) > n * size:
                        self.refused(answer, -33)
                    else:
                        self.told(answer)
                        self.assertEqual(len(answer), 2 + answer[1])

    def test_few_tells_one_number(self):
        for size, most, levels in itertools.product(NUMBERS, MOSTS, ROWS):
            with self.subTest(size=size, most=most, levels=levels):
                answer = few(size, most, list(levels))
                if row_is_wrong(levels) or is_wrong(size) or most > 1000:
                    self.refused(answer, -22)
                else:
                    self.told(answer)
                    self.assertEqual(len(answer), 1)

    def test_what_each_call_answers(self):
        for name, expected, *values in ANSWERED:
            with self.subTest(name=name, values=values):
                self.assertEqual(answer_of(name, values), expected)


class EachCallByItself(unittest.TestCase):
    def test_what_is_handed_in_is_not_changed(self):
        for name, expected, *values in ANSWERED:
            with self.subTest(name=name, values=values):
                given = copies(values)
                self.assertEqual(FUNCTIONS[name](*given), expected)
                self.assertEqual(given, values)

    def test_what_is_handed_in_is_not_changed_for_a_while_either(self):
        for name, expected, *values in ANSWERED:
            with self.subTest(name=name, values=values):
                given = [Unchanging(value) if isinstance(value, list) else value for value in values]
                self.assertEqual(FUNCTIONS[name](*given), expected)

    def test_one_list_as_levels_and_as_groups(self):
        both = Unchanging([0, 3, 3, 0, 1])
        self.assertEqual(looks(4, 2, both, both), [0, 0])

    def test_each_call_behind_each_other(self):
        for before, after in itertools.product(ANSWERED, repeat=2):
            with self.subTest(before=before, after=after):
                answer_of(before[0], before[2:])
                self.assertEqual(answer_of(after[0], after[2:]), after[1])

    def test_each_call_twice_with_the_same_lists(self):
        for name, expected, *values in ANSWERED:
            with self.subTest(name=name, values=values):
                given = copies(values)
                self.assertEqual(FUNCTIONS[name](*given), expected)
                self.assertEqual(FUNCTIONS[name](*given), expected)

    def test_lists_changed_behind_a_call(self):
        levels = [100, 7, 30, 77, 20, 50]
        groups = [0, 1, 0, 1, 0, 1]
        self.assertEqual(looks(2, 3, levels, groups), [150, 80])
        self.assertEqual(best(2, 3, levels), [73, 2, 3, 3])
        self.assertEqual(even(2, 3, levels), [50, 2, 3, 3])
        self.assertEqual(few(3, 50, levels), [2])
        levels[0] = 47
        groups[2] = 1
        groups[3] = 0
        self.assertEqual(looks(2, 3, levels, groups), [100, 57])
        self.assertEqual(best(2, 3, levels), [53, 2, 3, 3])
        self.assertEqual(even(2, 3, levels), [30, 2, 3, 3])
        self.assertEqual(few(3, 29, levels), [3])

    def test_an_answer_that_is_changed_does_not_change_the_next(self):
        for name, expected, *values in ANSWERED:
            with self.subTest(name=name, values=values):
                answer = answer_of(name, values)
                answer.append(77)
                answer[0] = 78
                self.assertEqual(answer_of(name, values), expected)

    def test_nothing_is_printed(self):
        printed = io.StringIO()
        with contextlib.redirect_stdout(printed), contextlib.redirect_stderr(printed):
            answers = [answer_of(name, values) for name, _, *values in ANSWERED]
        self.assertEqual(printed.getvalue(), "")
        self.assertEqual(answers, [expected for _, expected, *_ in ANSWERED])

    def test_nothing_is_read_or_imported(self):
        with contextlib.ExitStack() as stack:
            for name in ("print", "input", "open", "__import__"):
                stack.enter_context(mock.patch("builtins." + name, refuse_use))
            answers = [answer_of(name, values) for name, _, *values in ANSWERED]
        self.assertEqual(answers, [expected for _, expected, *_ in ANSWERED])


if __name__ == "__main__":
    unittest.main()
