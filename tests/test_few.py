"""Tests of levelgroups.groups.few: points 1 and 4 of the document, and what holds (c)."""

import itertools
import unittest

from levelgroups.groups import best, even, few, looks

LARGEST = 4294967295


def lengths_between(borders):
    """How many children lie between each border and the next."""
    return [after - before for before, after in zip(borders, borders[1:])]


def pieces_of_row(children):
    """All pieces of a row of so many children: any places to cut at."""
    if children == 0:
        return [[]]
    places = range(1, children)
    return [
        lengths_between([0, *chosen, children])
        for cuts in range(children)
        for chosen in itertools.combinations(places, cuts)
    ]


def greatest_of_pieces(levels, lengths):
    """The greatest spread of these pieces, by their first and last child."""
    row = sorted(levels)
    ends = list(itertools.accumulate(lengths))
    return max((row[end - 1] - row[end - length] for end, length in zip(ends, lengths)), default=0)


def told_by_trying(size, most, levels):
    """What few is to answer, by trying all pieces."""
    right = [
        len(lengths)
        for lengths in pieces_of_row(len(levels))
        if max(lengths, default=0) <= size and greatest_of_pieces(levels, lengths) <= most
    ]
    return [min(right)]


def a_grouping_is_enough(n, size, most, levels):
    """Whether looks tells of any grouping into n groups that no spread is above most."""
    for groups in itertools.product(range(n), repeat=len(levels)):
        answer = looks(n, size, levels, list(groups))
        if answer != [-28] and answer[1] <= most:
            return True
    return False


def refuse_change(*_, **__):
    raise AssertionError("what is handed in was changed")


class Unchanging(list):
    """A list that fails where it is changed, if for a while only."""

    append = clear = extend = insert = pop = remove = reverse = sort = refuse_change
    __setitem__ = __delitem__ = __iadd__ = __imul__ = refuse_change


class Answers(unittest.TestCase):
    """Asks few and compares all that it answers."""

    def answers(self, expected, size, most, levels):
        with self.subTest(size=size, most=most, levels=levels):
            before = list(levels)
            answer = few(size, most, levels)
            self.assertEqual(answer, expected)
            self.assertEqual(levels, before)
            self.assertIs(type(answer), list)
            self.assertEqual([type(number) for number in answer], [int] * len(answer))


class OrdinaryInputs(Answers):
    def test_how_few_pieces_are_enough(self):
        self.answers([2], 3, 6, [10, 15, 20, 26])
        self.answers([3], 9, 10, [1, 2, 3, 50, 51, 90, 100])

    def test_the_more_is_let_the_fewer_are_enough(self):
        levels = [1, 2, 3, 50, 51, 90, 100]
        self.answers([7], 9, 0, levels)
        self.answers([5], 9, 1, levels)
        self.answers([4], 9, 2, levels)
        self.answers([3], 9, 48, levels)
        self.answers([2], 9, 49, levels)
        self.answers([2], 9, 98, levels)
        self.answers([1], 9, 99, levels)
        self.answers([1], 9, 100, levels)

    def test_no_piece_has_more_than_size_children(self):
        levels = [1, 2, 3, 50, 51, 90, 100]
        for size, pieces in ((1, 7), (2, 4), (3, 3), (4, 2), (5, 2), (6, 2), (7, 1), (8, 1), (9, 1)):
            self.answers([pieces], size, 1000, levels)

    def test_both_size_and_most_bound_the_pieces(self):
        levels = [0, 1, 2, 3, 4, 5]
        self.answers([2], 4, 3, levels)
        self.answers([2], 3, 3, levels)
        self.answers([2], 4, 2, levels)
        self.answers([3], 2, 3, levels)
        self.answers([3], 4, 1, levels)

    def test_a_piece_is_measured_from_its_first_to_its_last_child(self):
        levels = [0, 4, 8, 12, 16]
        self.answers([5], 9, 3, levels)
        self.answers([3], 9, 4, levels)
        self.answers([3], 9, 7, levels)
        self.answers([2], 9, 8, levels)
        self.answers([2], 9, 15, levels)
        self.answers([1], 9, 16, levels)

    def test_levels_in_any_order(self):
        for levels in itertools.permutations([3, 8, 15, 40, 44]):
            self.answers([2], 4, 12, list(levels))
            self.answers([3], 2, 12, list(levels))
            self.answers([3], 9, 5, list(levels))

    def test_levels_falling(self):
        self.answers([3], 9, 10, [100, 90, 51, 50, 3, 2, 1])

    def test_one_child(self):
        for size in (1, 5, 9):
            for most in (0, 7, 1000):
                self.answers([1], size, most, [30])

    def test_level_0_counts(self):
        self.answers([2], 2, 7, [0, 8])
        self.answers([1], 2, 8, [0, 8])


class JustMost(Answers):
    def test_a_spread_that_is_just_most(self):
        self.answers([1], 2, 7, [0, 7])
        self.answers([2], 2, 7, [10, 17, 20, 27])
        self.answers([1], 2, 1000, [0, 1000])
        self.answers([1], 9, 8, [1, 2, 3, 4, 5, 6, 7, 8, 9])

    def test_a_spread_that_is_above_it_by_1(self):
        self.answers([2], 2, 6, [0, 7])
        self.answers([3], 2, 6, [10, 17, 20, 27])
        self.answers([2], 2, 999, [0, 1000])
        self.answers([2], 9, 7, [1, 2, 3, 4, 5, 6, 7, 8, 9])

    def test_for_each_spread_of_two_children(self):
        for wide in range(1, 1001):
            self.answers([1], 2, wide, [0, wide])
            self.answers([2], 2, wide - 1, [0, wide])

    def test_most_0(self):
        self.answers([1], 3, 0, [5, 5, 5])
        self.answers([2], 3, 0, [5, 6])
        self.answers([3], 3, 0, [6, 5, 7, 5, 6])
        self.answers([5], 9, 0, [1, 2, 3, 4, 5])
        self.answers([4], 2, 0, [5, 5, 5, 6, 6, 6])


class Edges(Answers):
    def test_no_children(self):
        for size in range(1, 10):
            for most in (0, 1, 500, 1000):
                self.answers([0], size, most, [])

    def test_all_of_one_level(self):
        for level in (0, 6, 1000):
            for most in (0, 1000):
                self.answers([5], 1, most, [level] * 5)
                self.answers([3], 2, most, [level] * 5)
                self.answers([2], 3, most, [level] * 5)
                self.answers([2], 4, most, [level] * 5)
                self.answers([1], 5, most, [level] * 5)
                self.answers([1], 9, most, [level] * 5)

    def test_pieces_that_must_all_be_full(self):
        self.answers([3], 3, 1000, [1, 2, 3, 4, 5, 6, 7, 8, 9])
        self.answers([3], 3, 2, [1, 2, 3, 4, 5, 6, 7, 8, 9])
        self.answers([3], 3, 6, [1, 2, 3, 10, 12, 14, 20, 23, 26])
        self.answers([4], 2, 100, [4, 4, 4, 4, 5, 5, 5, 5])
        self.answers([1], 9, 8, [9, 8, 7, 6, 5, 4, 3, 2, 1])

    def test_more_than_full_pieces_where_a_spread_would_be_above_most(self):
        self.answers([5], 3, 1, [1, 2, 3, 4, 5, 6, 7, 8, 9])
        self.answers([4], 3, 5, [1, 2, 3, 10, 12, 14, 20, 23, 26])

    def test_size_1(self):
        for most in (0, 30, 1000):
            self.answers([3], 1, most, [4, 900, 31])
            self.answers([2], 1, most, [8, 8])
            self.answers([9], 1, most, [1, 2, 3, 4, 5, 6, 7, 8, 9])
            self.answers([1], 1, most, [77])

    def test_a_widest_gap_that_cannot_be_cut(self):
        self.answers([2], 3, 98, [0, 1, 2, 3, 100, 101])
        self.answers([2], 2, 102, [0, 1, 2, 104])

    def test_one_piece_more_where_the_widest_gap_is_cut(self):
        self.answers([3], 3, 97, [0, 1, 2, 3, 100, 101])
        self.answers([2], 4, 3, [0, 1, 2, 3, 100, 101])
        self.answers([3], 2, 101, [0, 1, 2, 104])
        self.answers([2], 3, 101, [0, 1, 2, 104])


class WithFewerSomeSpreadIsAboveMost(Answers):
    LEVELS = (0, 1, 3, 8, 20)

    def beside_looks(self, size, most, levels):
        pieces = few(size, most, levels)[0]
        with self.subTest(size=size, most=most, levels=levels):
            if pieces > 0:
                self.assertTrue(a_grouping_is_enough(pieces, size, most, levels))
            for n in range(1, pieces):
                self.assertFalse(a_grouping_is_enough(n, size, most, levels))

    def test_beside_looks_over_every_grouping(self):
        for children in range(5):
            for levels in itertools.combinations_with_replacement(self.LEVELS, children):
                for size in range(1, 5):
                    for most in (0, 1, 2, 3, 7, 8, 19, 20):
                        self.beside_looks(size, most, list(levels))

    def test_beside_looks_for_a_few_more_children(self):
        for levels in ([12, 0, 5, 3, 12], [4, 4, 9, 1, 30, 31], [0, 1000, 500, 499, 501, 2]):
            for size in (2, 3, 5):
                for most in (0, 3, 5, 27, 501, 1000):
                    self.beside_looks(size, most, levels)

    def test_beside_even(self):
        rows = (
            [1],
            [5, 5],
            [12, 0, 5, 3, 12],
            [1, 2, 3, 4, 5, 6, 7, 8, 9],
            [0, 1, 3, 6, 10, 15, 21, 28, 36],
            [7, 7, 7, 500, 500, 500, 1000, 1000, 1000],
            [12, 900, 14, 13, 1, 901, 40, 44, 1],
        )
        for levels in rows:
            for size in range(1, 10):
                for most in (0, 1, 2, 3, 5, 8, 13, 100, 499, 500, 888, 1000):
                    with self.subTest(size=size, most=most, levels=levels):
                        pieces = few(size, most, levels)[0]
                        self.assertIn(even(pieces, size, levels)[0], range(most + 1))
                        for n in range(1, pieces):
                            self.assertNotIn(even(n, size, levels)[0], range(most + 1))

    def test_beside_all_pieces_of_few_children(self):
        for children in range(7):
            for levels in itertools.combinations_with_replacement((0, 1, 3), children):
                for size in range(1, 8):
                    for most in range(4):
                        self.answers(told_by_trying(size, most, levels), size, most, list(levels))

    def test_beside_all_pieces_of_9_children(self):
        rows = (
            [1, 2, 3, 4, 5, 6, 7, 8, 9],
            [0, 1, 3, 6, 10, 15, 21, 28, 36],
            [36, 35, 33, 30, 26, 21, 15, 8, 0],
            [7, 7, 7, 500, 500, 500, 1000, 1000, 1000],
            [12, 900, 14, 13, 1, 901, 40, 44, 1],
        )
        for levels in rows:
            for size in range(1, 10):
                for most in (0, 1, 2, 3, 5, 7, 8, 15, 36, 43, 493, 500, 992, 993, 1000):
                    self.answers(told_by_trying(size, most, levels), size, most, levels)


class LastRightValues(Answers):
    def test_9_children(self):
        self.answers([2], 9, 4, [1, 2, 3, 4, 5, 6, 7, 8, 9])
        self.answers([9], 9, 0, [1, 2, 3, 4, 5, 6, 7, 8, 9])

    def test_level_1000(self):
        self.answers([2], 2, 5, [1000, 0])
        self.answers([1], 1, 5, [1000])

    def test_size_1_and_9(self):
        self.answers([2], 1, 3, [1, 4])
        self.answers([1], 9, 3, [1, 4])

    def test_most_0_and_1000(self):
        self.answers([2], 2, 0, [1, 4])
        self.answers([1], 2, 1000, [1, 4])

    def test_all_last_values_at_once(self):
        self.answers([1], 9, 1000, [1000] * 9)
        self.answers([1], 9, 0, [1000] * 9)
        self.answers([9], 1, 1000, [1000] * 9)


class RefusedByPoint1(Answers):
    def test_more_than_9_children(self):
        self.answers([-22], 9, 1000, [5] * 10)
        self.answers([-22], 9, 0, [5] * 15)
        self.answers([-22], 1, 3, [1, 2, 3, 4, 5, 6, 7, 8, 9, 10])

    def test_a_level_above_1000(self):
        self.answers([-22], 3, 10, [1001, 5, 6])
        self.answers([-22], 3, 10, [5, 1001, 6])
        self.answers([-22], 3, 10, [5, 6, 1001])
        self.answers([-22], 1, 0, [1001])
        self.answers([-22], 3, 1000, [LARGEST])
        self.answers([-22], 3, 0, [1001, 1001])

    def test_size_not_1_to_9(self):
        for size in (0, 10, 11, LARGEST):
            self.answers([-22], size, 3, [1, 2])
            self.answers([-22], size, 3, [])

    def test_most_above_1000(self):
        for most in (1001, 1002, LARGEST):
            self.answers([-22], 3, most, [1, 2])
            self.answers([-22], 3, most, [])
            self.answers([-22], 9, most, [1000] * 9)

    def test_several_faults_at_once(self):
        self.answers([-22], 0, 1001, [1001] * 10)
        self.answers([-22], 10, LARGEST, [LARGEST] * 15)


class EachCallByItself(Answers):
    CALLS = (
        ([3], 2, 12, [40, 8, 44, 15, 3]),
        ([3], 9, 10, [100, 2, 90, 3, 51, 50, 1]),
        ([0], 4, 2, []),
        ([-22], 3, 5, [30, 1001, 4]),
        ([-22], 3, 1001, [9, 3, 4]),
    )

    def test_what_is_handed_in_stays_as_it_was(self):
        for expected, size, most, levels in self.CALLS:
            self.answers(expected, size, most, list(levels))
            self.answers(expected, size, most, Unchanging(levels))

    def test_called_twice_it_answers_alike(self):
        for expected, size, most, levels in self.CALLS:
            given = list(levels)
            self.answers(expected, size, most, given)
            self.answers(expected, size, most, given)

    def test_other_calls_between_change_nothing(self):
        for call in self.CALLS + tuple(reversed(self.CALLS)):
            self.answers(*call)

    def test_an_answer_that_is_changed_does_not_change_the_next(self):
        for expected, size, most, levels in self.CALLS:
            given = list(levels)
            answer = few(size, most, given)
            answer.append(77)
            answer[0] = 78
            self.answers(expected, size, most, given)

    def test_looks_answers_as_before(self):
        levels = [100, 7, 30, 77, 20, 50]
        for expected, size, most, row in self.CALLS:
            self.answers(expected, size, most, list(row))
            self.assertEqual(looks(2, 3, levels, [0, 1, 0, 1, 0, 1]), [150, 80])
            self.assertEqual(looks(2, 2, levels, [0, 1, 0, 1, 0, 1]), [-28])
            self.assertEqual(looks(1, 3, levels, [0, 1, 0, 1, 0, 1]), [-22])

    def test_best_answers_as_before(self):
        levels = [20, 0, 15, 5, 10]
        for expected, size, most, row in self.CALLS:
            self.answers(expected, size, most, list(row))
            self.assertEqual(best(2, 3, levels), [15, 2, 2, 3])
            self.assertEqual(best(2, 2, levels), [-33])
            self.assertEqual(best(0, 3, levels), [-22])
            self.assertEqual(best(4, 2, []), [0, 0])

    def test_even_answers_as_before(self):
        levels = [20, 0, 15, 5, 10]
        for expected, size, most, row in self.CALLS:
            self.answers(expected, size, most, list(row))
            self.assertEqual(even(2, 3, levels), [10, 2, 2, 3])
            self.assertEqual(even(2, 2, levels), [-33])
            self.assertEqual(even(0, 3, levels), [-22])
            self.assertEqual(even(4, 2, []), [0, 0])


if __name__ == "__main__":
    unittest.main()
