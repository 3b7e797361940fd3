"""Tests of levelgroups.groups.looks: points 1 and 2 of the document."""

import itertools
import unittest

from levelgroups.groups import looks

LARGEST = 4294967295


def greatest_difference(levels, groups, group):
    """The greatest difference between two children of one group, pair by pair."""
    members = [child for child in range(len(levels)) if groups[child] == group]
    differences = [abs(levels[a] - levels[b]) for a in members for b in members]
    return max(differences, default=0)


def refuse_change(*_, **__):
    raise AssertionError("what is handed in was changed")


class Unchanging(list):
    """A list that fails where it is changed, if for a while only."""

    append = clear = extend = insert = pop = remove = reverse = sort = refuse_change
    __setitem__ = __delitem__ = __iadd__ = __imul__ = refuse_change


class Answers(unittest.TestCase):
    """Asks looks and compares all that it answers."""

    def answers(self, expected, n, size, levels, groups):
        with self.subTest(n=n, size=size, levels=levels, groups=groups):
            before = list(levels), list(groups)
            answer = looks(n, size, levels, groups)
            self.assertEqual(answer, expected)
            self.assertEqual((levels, groups), before)
            self.assertIs(type(answer), list)
            self.assertEqual([type(number) for number in answer], [int] * len(answer))


class OrdinaryInputs(Answers):
    def test_all_spreads_together_then_the_greatest(self):
        self.answers([11, 6], 2, 3, [10, 15, 20, 26], [0, 0, 1, 1])
        self.answers([18, 9], 3, 2, [1, 6, 20, 29, 40, 44], [0, 0, 1, 1, 2, 2])

    def test_the_greatest_may_be_any_group(self):
        self.answers([10, 7], 3, 2, [0, 7, 10, 12, 20, 21], [0, 0, 1, 1, 2, 2])
        self.answers([10, 7], 3, 2, [0, 2, 10, 17, 20, 21], [0, 0, 1, 1, 2, 2])
        self.answers([10, 7], 3, 2, [0, 2, 10, 11, 20, 27], [0, 0, 1, 1, 2, 2])

    def test_two_groups_as_wide(self):
        self.answers([10, 5], 2, 2, [0, 5, 10, 15], [0, 0, 1, 1])

    def test_one_group(self):
        self.answers([90, 90], 1, 4, [30, 100, 10, 50], [0, 0, 0, 0])

    def test_levels_in_any_order(self):
        for levels in itertools.permutations([3, 8, 15, 40]):
            self.answers([37, 37], 1, 4, list(levels), [0, 0, 0, 0])

    def test_children_of_a_group_lie_apart(self):
        self.answers([150, 80], 2, 3, [100, 7, 30, 77, 20, 50], [0, 1, 0, 1, 0, 1])

    def test_groups_numbered_in_any_order(self):
        self.answers([9, 5], 3, 2, [9, 4, 30, 32, 50, 52], [2, 2, 0, 0, 1, 1])

    def test_level_0_counts(self):
        self.answers([8, 8], 1, 2, [0, 8], [0, 0])

    def test_every_grouping_of_a_few_children(self):
        levels = [5, 0, 12, 12, 3]
        for groups in itertools.product(range(3), repeat=len(levels)):
            spreads = [greatest_difference(levels, groups, group) for group in range(3)]
            self.answers([sum(spreads), max(spreads)], 3, 5, levels, list(groups))


class Edges(Answers):
    def test_no_children(self):
        for n in (1, 4, 9):
            for size in (1, 4, 9):
                self.answers([0, 0], n, size, [], [])

    def test_all_of_one_level(self):
        for level in (0, 6, 1000):
            self.answers([0, 0], 2, 3, [level] * 5, [0, 1, 0, 1, 0])

    def test_groups_that_must_all_be_full(self):
        self.answers([12, 6], 3, 3, [1, 2, 3, 10, 12, 14, 20, 23, 26], [0, 0, 0, 1, 1, 1, 2, 2, 2])
        self.answers([4, 3], 2, 2, [7, 1, 4, 6], [1, 0, 0, 1])
        self.answers([9, 9], 1, 2, [10, 1], [0, 0])

    def test_size_1(self):
        self.answers([0, 0], 3, 1, [4, 900, 31], [1, 0, 2])
        self.answers([0, 0], 9, 1, [1, 2, 3, 4, 5, 6, 7, 8, 9], [8, 7, 6, 5, 4, 3, 2, 1, 0])

    def test_more_groups_than_children(self):
        self.answers([0, 0], 5, 1, [50, 70], [3, 1])
        self.answers([20, 20], 5, 2, [50, 70], [4, 4])
        self.answers([0, 0], 9, 9, [1000], [8])

    def test_an_empty_group(self):
        self.answers([7, 4], 3, 2, [100, 103, 200, 204], [1, 1, 2, 2])
        self.answers([7, 4], 3, 2, [100, 103, 200, 204], [0, 0, 2, 2])
        self.answers([7, 4], 3, 2, [100, 103, 200, 204], [0, 0, 1, 1])


class LastRightValues(Answers):
    def test_9_children(self):
        self.answers([8, 8], 1, 9, [1, 2, 3, 4, 5, 6, 7, 8, 9], [0] * 9)

    def test_level_1000(self):
        self.answers([1000, 1000], 2, 2, [0, 1000], [1, 1])
        self.answers([4000, 1000], 4, 2, [0, 1000] * 4, [0, 0, 1, 1, 2, 2, 3, 3])

    def test_n_1_and_9(self):
        self.answers([3, 3], 1, 2, [1, 4], [0, 0])
        self.answers([3, 3], 9, 2, [1, 4], [8, 8])

    def test_size_1_and_9(self):
        self.answers([0, 0], 2, 1, [1, 4], [0, 1])
        self.answers([3, 3], 2, 9, [1, 4], [1, 1])

    def test_the_greatest_group_of_each_n(self):
        for n in range(1, 10):
            self.answers([3, 3], n, 2, [1, 4], [n - 1, n - 1])


class RefusedByPoint1(Answers):
    def test_more_than_9_children(self):
        self.answers([-22], 9, 9, [5] * 10, [0, 1, 2, 3, 4, 5, 6, 7, 8, 0])
        self.answers([-22], 9, 9, [5] * 15, [0, 1, 2, 3, 4] * 3)

    def test_more_than_9_children_without_so_many_groups(self):
        self.answers([-22], 2, 9, [5] * 10, [0] * 9)
        self.answers([-22], 2, 9, [5] * 10, [])

    def test_a_level_above_1000(self):
        self.answers([-22], 1, 3, [1001, 5, 6], [0, 0, 0])
        self.answers([-22], 1, 3, [5, 1001, 6], [0, 0, 0])
        self.answers([-22], 1, 3, [5, 6, 1001], [0, 0, 0])
        self.answers([-22], 1, 3, [LARGEST], [0])
        self.answers([-22], 1, 3, [1001, 1001], [0, 0])

    def test_n_not_1_to_9(self):
        for n in (0, 10, 11, LARGEST):
            self.answers([-22], n, 3, [1, 2], [0, 0])
            self.answers([-22], n, 3, [], [])

    def test_size_not_1_to_9(self):
        for size in (0, 10, 11, LARGEST):
            self.answers([-22], 3, size, [1, 2], [0, 1])
            self.answers([-22], 3, size, [], [])

    def test_too_few_groups(self):
        self.answers([-22], 3, 3, [1, 2, 3], [0, 1])
        self.answers([-22], 3, 3, [1], [])

    def test_too_many_groups(self):
        self.answers([-22], 3, 3, [1, 2, 3], [0, 1, 2, 0])
        self.answers([-22], 3, 3, [], [0])
        self.answers([-22], 9, 9, [1, 2, 3, 4, 5, 6, 7, 8, 9], [0] * 15)

    def test_a_group_of_n_or_more(self):
        for n in range(1, 10):
            self.answers([-22], n, 3, [1, 2], [0, n])
            self.answers([-22], n, 3, [1, 2], [n, 0])
        self.answers([-22], 3, 3, [1, 2, 3], [0, 4, 0])
        self.answers([-22], 3, 3, [1, 2, 3], [0, LARGEST, 0])


class RefusedByPoint2(Answers):
    def test_a_group_has_more_than_size(self):
        self.answers([-28], 3, 2, [1, 2, 3, 4], [0, 0, 0, 1])
        self.answers([-28], 3, 2, [1, 2, 3, 4], [0, 1, 1, 1])
        self.answers([-28], 3, 2, [1, 2, 3, 4], [2, 0, 2, 2])

    def test_one_more_than_size_for_each_size(self):
        for size in range(1, 9):
            self.answers([-28], 2, size, [7] * (size + 1), [1] * (size + 1))
            self.answers([0, 0], 2, size, [7] * size, [1] * size)

    def test_far_more_than_size(self):
        self.answers([-28], 9, 1, [1, 2, 3, 4, 5, 6, 7, 8, 9], [4] * 9)

    def test_more_children_than_the_groups_take(self):
        self.answers([-28], 2, 2, [1, 2, 3, 4, 5], [0, 1, 0, 1, 0])
        self.answers([-28], 2, 1, [1, 2, 3], [0, 0, 0])


class Point1AheadOfPoint2(Answers):
    def test_the_call_without_its_fault_is_refused_by_point_2(self):
        self.answers([-28], 2, 2, [1, 2, 3], [0, 0, 0])

    def test_more_than_9_children(self):
        self.answers([-22], 2, 2, [1] * 10, [0] * 10)

    def test_a_level_above_1000(self):
        self.answers([-22], 2, 2, [1, 2, 1001], [0, 0, 0])
        self.answers([-22], 2, 2, [1, 2, 3, 1001], [0, 0, 0, 1])

    def test_n_not_1_to_9(self):
        for n in (0, 10, LARGEST):
            self.answers([-22], n, 2, [1, 2, 3], [0, 0, 0])

    def test_size_0(self):
        self.answers([-22], 2, 0, [1, 2, 3], [0, 0, 0])

    def test_size_above_9(self):
        self.answers([-22], 2, 10, [1] * 11, [0] * 11)

    def test_too_few_groups(self):
        self.answers([-22], 2, 2, [1, 2, 3, 4], [0, 0, 0])

    def test_too_many_groups(self):
        self.answers([-22], 2, 2, [1, 2, 3], [0, 0, 0, 0])
        self.answers([-22], 2, 2, [1, 2], [0, 0, 0])

    def test_a_group_of_n_or_more(self):
        self.answers([-22], 2, 2, [1, 2, 3, 4], [0, 0, 0, 2])
        self.answers([-22], 2, 2, [1, 2, 3, 4], [2, 0, 0, 0])
        self.answers([-22], 2, 2, [1, 2, 3], [2, 2, 2])


class EachCallByItself(Answers):
    CALLS = (
        ([150, 80], 2, 3, [100, 7, 30, 77, 20, 50], [0, 1, 0, 1, 0, 1]),
        ([0, 0], 4, 2, [], []),
        ([-22], 1, 2, [30, 1001, 4], [0, 0, 0]),
        ([-22], 2, 2, [9, 3, 4], [1, 0, 2]),
        ([-28], 2, 2, [9, 3, 4, 1], [1, 0, 1, 1]),
    )

    def test_what_is_handed_in_stays_as_it_was(self):
        for expected, n, size, levels, groups in self.CALLS:
            self.answers(expected, n, size, list(levels), list(groups))
            self.answers(expected, n, size, Unchanging(levels), Unchanging(groups))

    def test_called_twice_it_answers_alike(self):
        for expected, n, size, levels, groups in self.CALLS:
            self.answers(expected, n, size, levels, groups)
            self.answers(expected, n, size, levels, groups)

    def test_other_calls_between_change_nothing(self):
        for call in self.CALLS + tuple(reversed(self.CALLS)):
            self.answers(*call)

    def test_an_answer_that_is_changed_does_not_change_the_next(self):
        for expected, n, size, levels, groups in self.CALLS:
            levels_given, groups_given = list(levels), list(groups)
            answer = looks(n, size, levels_given, groups_given)
            answer.append(77)
            answer[0] = 78
            self.answers(expected, n, size, levels_given, groups_given)


if __name__ == "__main__":
    unittest.main()
