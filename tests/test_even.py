"""Tests of levelgroups.groups.even: points 1 and 3 of the document, and what holds (a and b)."""

import itertools
import unittest

from levelgroups.groups import best, even, looks

LARGEST = 4294967295


def lengths_between(borders):
    """How many children lie between each border and the next."""
    return [after - before for before, after in zip(borders, borders[1:])]


def pieces_of_row(n, size, children):
    """All pieces of a row of so many children, by the document's order: any places to cut at."""
    if children == 0:
        return [[]]
    places = range(1, children)
    found = []
    for cuts in range(min(n, children)):
        for chosen in itertools.combinations(places, cuts):
            lengths = lengths_between([0, *chosen, children])
            if max(lengths) <= size:
                found.append(lengths)
    return sorted(found)


def greatest_of_pieces(levels, lengths):
    """The greatest spread of these pieces, by their first and last child."""
    row = sorted(levels)
    ends = list(itertools.accumulate(lengths))
    return max((row[end - 1] - row[end - length] for end, length in zip(ends, lengths)), default=0)


def told_by_trying(n, size, levels):
    """What even is to answer, by trying all pieces."""
    if len(levels) > n * size:
        return [-33]
    tried = [(greatest_of_pieces(levels, lengths), lengths) for lengths in pieces_of_row(n, size, len(levels))]
    least, lengths = min(tried)
    return [least, len(lengths), *lengths]


def least_by_looks(n, size, levels):
    """The least greatest spread that looks tells of any grouping within size; None where there's none."""
    groupings = itertools.product(range(n), repeat=len(levels))
    answers = [looks(n, size, levels, list(groups)) for groups in groupings]
    return min((answer[1] for answer in answers if answer != [-28]), default=None)


def groups_of_pieces(levels, lengths):
    """Of each child its group, where the pieces are the groups from group 0 on."""
    rising = sorted(range(len(levels)), key=lambda child: levels[child])
    numbers = [group for group, length in enumerate(lengths) for _ in range(length)]
    groups = [0] * len(levels)
    for child, group in zip(rising, numbers, strict=True):
        groups[child] = group
    return groups


def refuse_change(*_, **__):
    raise AssertionError("what is handed in was changed")


class Unchanging(list):
    """A list that fails where it is changed, if for a while only."""

    append = clear = extend = insert = pop = remove = reverse = sort = refuse_change
    __setitem__ = __delitem__ = __iadd__ = __imul__ = refuse_change


class Answers(unittest.TestCase):
    """Asks even and compares all that it answers."""

    def answers(self, expected, n, size, levels):
        with self.subTest(n=n, size=size, levels=levels):
            before = list(levels)
            answer = even(n, size, levels)
            self.assertEqual(answer, expected)
            self.assertEqual(levels, before)
            self.assertIs(type(answer), list)
            self.assertEqual([type(number) for number in answer], [int] * len(answer))


class OrdinaryInputs(Answers):
    def test_greatest_spread_then_how_many_pieces_then_their_children(self):
        self.answers([6, 2, 2, 2], 2, 3, [10, 15, 20, 26])
        self.answers([10, 3, 3, 2, 2], 3, 9, [1, 2, 3, 50, 51, 90, 100])

    def test_children_are_told_from_the_least_level_on(self):
        self.answers([3, 2, 1, 4], 2, 4, [0, 50, 51, 52, 53])
        self.answers([3, 2, 4, 1], 2, 4, [0, 1, 2, 3, 53])
        self.answers([2, 3, 3, 1, 3], 3, 4, [0, 1, 2, 20, 40, 41, 42])

    def test_the_greatest_spread_may_be_any_piece(self):
        self.answers([9, 3, 2, 2, 2], 3, 3, [0, 9, 100, 101, 200, 201])
        self.answers([9, 3, 2, 2, 2], 3, 3, [0, 1, 100, 109, 200, 201])
        self.answers([9, 3, 2, 2, 2], 3, 3, [0, 1, 100, 101, 200, 209])

    def test_one_group(self):
        self.answers([90, 1, 4], 1, 4, [30, 100, 10, 50])
        self.answers([0, 1, 1], 1, 1, [30])

    def test_levels_in_any_order(self):
        for levels in itertools.permutations([3, 8, 15, 40, 44]):
            self.answers([12, 2, 3, 2], 2, 4, list(levels))
            self.answers([5, 3, 2, 1, 2], 3, 2, list(levels))

    def test_levels_falling(self):
        self.answers([10, 3, 3, 2, 2], 3, 9, [100, 90, 51, 50, 3, 2, 1])

    def test_no_more_pieces_than_groups(self):
        levels = [0, 10, 30, 60, 100]
        self.answers([100, 1, 5], 1, 5, levels)
        self.answers([40, 2, 3, 2], 2, 5, levels)
        self.answers([30, 3, 2, 2, 1], 3, 5, levels)
        self.answers([10, 4, 2, 1, 1, 1], 4, 5, levels)
        self.answers([0, 5, 1, 1, 1, 1, 1], 5, 5, levels)

    def test_no_piece_of_more_than_size(self):
        levels = [0, 1, 2, 3, 4, 100]
        self.answers([4, 2, 5, 1], 2, 6, levels)
        self.answers([4, 2, 5, 1], 2, 5, levels)
        self.answers([96, 2, 4, 2], 2, 4, levels)
        self.answers([97, 2, 3, 3], 2, 3, levels)

    def test_level_0_counts(self):
        self.answers([8, 1, 2], 1, 2, [0, 8])


class OtherPiecesThanBest(Answers):
    ROWS = (
        ([10, 2, 2, 2], [18, 2, 1, 3], 2, 3, [0, 10, 19, 28]),
        ([10, 2, 2, 2], [18, 2, 3, 1], 2, 3, [0, 9, 18, 28]),
        ([6, 2, 2, 2], [10, 2, 3, 1], 2, 3, [10, 15, 20, 26]),
        ([8, 3, 2, 3, 1], [12, 3, 1, 4, 1], 3, 9, [0, 4, 8, 12, 16, 100]),
        # Of even's pieces nothing but the greatest spread counts, not how wide the others are.
        ([100, 3, 1, 2, 2], [101, 3, 2, 1, 2], 3, 2, [0, 1, 5, 500, 600]),
    )

    def test_least_greatest_and_not_least_together(self):
        for expected, _, n, size, levels in self.ROWS:
            self.answers(expected, n, size, levels)

    def test_best_tells_others_of_the_same_row(self):
        for _, expected, n, size, levels in self.ROWS:
            with self.subTest(n=n, size=size, levels=levels):
                self.assertEqual(best(n, size, levels), expected)


class NoOtherIsBetter(Answers):
    LEVELS = (0, 1, 3, 8, 20)

    def beside_looks(self, n, size, levels):
        answer = even(n, size, levels)
        least = least_by_looks(n, size, levels)
        with self.subTest(n=n, size=size, levels=levels):
            self.assertEqual(answer[0], -33 if least is None else least)
            if least is not None:
                groups = groups_of_pieces(levels, answer[2:])
                self.assertEqual(looks(n, size, levels, groups)[1], least)

    def test_beside_looks_over_every_grouping(self):
        for children in range(5):
            for levels in itertools.combinations_with_replacement(self.LEVELS, children):
                for n in range(1, 5):
                    for size in range(1, 5):
                        self.beside_looks(n, size, list(levels))

    def test_beside_looks_for_a_few_more_children(self):
        for levels in ([12, 0, 5, 3, 12], [4, 4, 9, 1, 30, 31], [0, 1000, 500, 499, 501, 2]):
            for n in (2, 3):
                for size in (2, 3, 5):
                    self.beside_looks(n, size, levels)

    def test_beside_all_pieces_of_few_children(self):
        for children in range(7):
            for levels in itertools.combinations_with_replacement((0, 1, 3), children):
                for n in range(1, 8):
                    for size in range(1, 8):
                        self.answers(told_by_trying(n, size, levels), n, size, list(levels))

    def test_beside_all_pieces_of_9_children(self):
        rows = (
            [1, 2, 3, 4, 5, 6, 7, 8, 9],
            [0, 1, 3, 6, 10, 15, 21, 28, 36],
            [36, 35, 33, 30, 26, 21, 15, 8, 0],
            [7, 7, 7, 500, 500, 500, 1000, 1000, 1000],
            [12, 900, 14, 13, 1, 901, 40, 44, 1],
        )
        for levels in rows:
            for n in range(1, 10):
                for size in range(1, 10):
                    self.answers(told_by_trying(n, size, levels), n, size, levels)


class Edges(Answers):
    def test_no_children(self):
        for n in range(1, 10):
            for size in range(1, 10):
                self.answers([0, 0], n, size, [])

    def test_all_of_one_level(self):
        for level in (0, 6, 1000):
            self.answers([0, 2, 2, 3], 2, 3, [level] * 5)
            self.answers([0, 3, 1, 1, 3], 3, 9, [level] * 5)
            self.answers([0, 1, 5], 1, 5, [level] * 5)
            self.answers([0, 5, 1, 1, 1, 1, 1], 9, 3, [level] * 5)

    def test_groups_that_must_all_be_full(self):
        self.answers([6, 3, 3, 3, 3], 3, 3, [1, 2, 3, 10, 12, 14, 20, 23, 26])
        self.answers([101, 3, 3, 3, 3], 3, 3, [0, 100, 101, 102, 200, 201, 202, 203, 300])
        self.answers([100, 2, 2, 2], 2, 2, [0, 100, 100, 100])
        self.answers([8, 1, 9], 1, 9, [9, 8, 7, 6, 5, 4, 3, 2, 1])

    def test_size_1(self):
        self.answers([0, 3, 1, 1, 1], 3, 1, [4, 900, 31])
        self.answers([0, 3, 1, 1, 1], 9, 1, [4, 900, 31])
        self.answers([0, 9] + [1] * 9, 9, 1, [1, 2, 3, 4, 5, 6, 7, 8, 9])
        self.answers([0, 1, 1], 1, 1, [77])

    def test_two_cuts_as_good(self):
        self.answers([5, 2, 1, 2], 2, 2, [0, 5, 10])
        self.answers([10, 2, 2, 3], 2, 4, [0, 5, 10, 15, 20])
        self.answers([10, 2, 2, 3], 2, 3, [0, 5, 10, 15, 20])

    def test_of_cuts_as_good_the_first_has_the_shorter_piece_where_they_first_differ(self):
        self.answers([1, 4, 1, 2, 1, 1], 4, 3, [0, 1, 2, 50, 90])
        self.answers([1, 4, 1, 1, 1, 2], 4, 3, [0, 30, 60, 61, 62])
        self.answers([1, 3, 1, 2, 2], 3, 2, [0, 1, 2, 3, 4])
        self.answers([100, 3, 1, 2, 2], 3, 2, [0, 3, 4, 500, 600])
        self.answers([100, 3, 1, 2, 2], 3, 2, [0, 1, 5, 500, 600])

    def test_of_cuts_as_good_the_first_may_have_more_pieces(self):
        self.answers([0, 3, 1, 1, 1], 3, 3, [0, 7, 7])
        self.answers([0, 4, 1, 1, 1, 2], 4, 4, [7, 7, 9, 9, 9])
        self.answers([3, 3, 1, 1, 2], 3, 2, [0, 3, 6, 9])

    def test_a_widest_gap_that_cannot_be_cut(self):
        self.answers([98, 2, 3, 3], 2, 3, [0, 1, 2, 3, 100, 101])
        self.answers([100, 2, 3, 3], 2, 3, [0, 1, 100, 101, 102, 104])
        self.answers([2, 2, 3, 1], 2, 3, [0, 1, 2, 104])
        self.answers([102, 2, 2, 2], 2, 2, [0, 1, 2, 104])

    def test_more_groups_than_children(self):
        self.answers([0, 2, 1, 1], 5, 1, [50, 70])
        self.answers([0, 2, 1, 1], 5, 2, [50, 70])
        self.answers([0, 1, 1], 9, 9, [1000])
        self.answers([0, 8] + [1] * 8, 9, 9, [1, 1, 2, 3, 5, 8, 13, 21])


class LastRightValues(Answers):
    def test_9_children(self):
        self.answers([4, 2, 4, 5], 2, 9, [1, 2, 3, 4, 5, 6, 7, 8, 9])

    def test_level_1000(self):
        self.answers([1000, 1, 2], 1, 2, [1000, 0])
        self.answers([0, 2, 1, 1], 2, 2, [1000, 0])
        self.answers([0, 1, 1], 1, 1, [1000])

    def test_n_1_and_9(self):
        self.answers([3, 1, 2], 1, 2, [1, 4])
        self.answers([0, 2, 1, 1], 9, 2, [1, 4])

    def test_size_1_and_9(self):
        self.answers([0, 2, 1, 1], 2, 1, [1, 4])
        self.answers([3, 1, 2], 1, 9, [1, 4])

    def test_all_last_values_at_once(self):
        self.answers([0, 9] + [1] * 9, 9, 9, [1000] * 9)


class RefusedByPoint1(Answers):
    def test_more_than_9_children(self):
        self.answers([-22], 9, 9, [5] * 10)
        self.answers([-22], 9, 9, [5] * 15)
        self.answers([-22], 9, 9, [1, 2, 3, 4, 5, 6, 7, 8, 9, 10])

    def test_a_level_above_1000(self):
        self.answers([-22], 2, 3, [1001, 5, 6])
        self.answers([-22], 2, 3, [5, 1001, 6])
        self.answers([-22], 2, 3, [5, 6, 1001])
        self.answers([-22], 1, 1, [1001])
        self.answers([-22], 1, 3, [LARGEST])
        self.answers([-22], 1, 3, [1001, 1001])

    def test_n_not_1_to_9(self):
        for n in (0, 10, 11, LARGEST):
            self.answers([-22], n, 3, [1, 2])
            self.answers([-22], n, 3, [])

    def test_size_not_1_to_9(self):
        for size in (0, 10, 11, LARGEST):
            self.answers([-22], 3, size, [1, 2])
            self.answers([-22], 3, size, [])


class RefusedByPoint3(Answers):
    def test_one_more_than_the_groups_take(self):
        self.answers([-33], 2, 2, [1, 2, 3, 4, 5])
        self.answers([-33], 1, 1, [4, 4])
        self.answers([-33], 8, 1, [0] * 9)
        self.answers([-33], 1, 8, [0] * 9)

    def test_far_more_than_the_groups_take(self):
        self.answers([-33], 1, 1, [1, 2, 3, 4, 5, 6, 7, 8, 9])
        self.answers([-33], 2, 2, [1000] * 9)

    def test_the_last_number_of_children_that_they_take(self):
        self.answers([1, 2, 2, 2], 2, 2, [1, 2, 3, 4])
        self.answers([0, 1, 1], 1, 1, [4])
        self.answers([0, 8] + [1] * 8, 8, 1, [0] * 8)
        self.answers([0, 1, 8], 1, 8, [0] * 8)

    def test_pieces_are_told_just_if_all_children_fit(self):
        for n in range(1, 10):
            for size in range(1, 10):
                for children in range(10):
                    levels = list(range(children))
                    with self.subTest(n=n, size=size, children=children):
                        answer = even(n, size, levels)
                        if children > n * size:
                            self.assertEqual(answer, [-33])
                        else:
                            self.assertGreaterEqual(answer[0], 0)
                            self.assertEqual(len(answer), 2 + answer[1])
                            self.assertLessEqual(answer[1], n)
                            self.assertEqual(sum(answer[2:]), children)
                            self.assertTrue(all(1 <= length <= size for length in answer[2:]))


class Point1AheadOfPoint3(Answers):
    def test_the_call_without_its_fault_is_refused_by_point_3(self):
        self.answers([-33], 2, 2, [1, 2, 3, 4, 5])

    def test_more_than_9_children(self):
        self.answers([-22], 2, 2, [1] * 10)
        self.answers([-22], 3, 3, [1] * 10)
        self.answers([-22], 1, 1, [1] * 15)

    def test_a_level_above_1000(self):
        self.answers([-22], 2, 2, [1, 2, 3, 4, 1001])
        self.answers([-22], 2, 2, [1001, 2, 3, 4, 5])

    def test_n_0(self):
        self.answers([-22], 0, 2, [1, 2, 3, 4, 5])

    def test_size_0(self):
        self.answers([-22], 2, 0, [1, 2, 3, 4, 5])

    def test_n_or_size_above_9(self):
        self.answers([-22], 10, 1, [1] * 11)
        self.answers([-22], 1, 10, [1] * 11)


class EachCallByItself(Answers):
    CALLS = (
        ([10, 2, 2, 3], 2, 3, [20, 0, 15, 5, 10]),
        ([10, 3, 3, 2, 2], 3, 9, [100, 2, 90, 3, 51, 50, 1]),
        ([0, 0], 4, 2, []),
        ([-22], 1, 3, [30, 1001, 4]),
        ([-33], 2, 2, [9, 3, 4, 1, 7]),
    )

    def test_what_is_handed_in_stays_as_it_was(self):
        for expected, n, size, levels in self.CALLS:
            self.answers(expected, n, size, list(levels))
            self.answers(expected, n, size, Unchanging(levels))

    def test_called_twice_it_answers_alike(self):
        for expected, n, size, levels in self.CALLS:
            given = list(levels)
            self.answers(expected, n, size, given)
            self.answers(expected, n, size, given)

    def test_other_calls_between_change_nothing(self):
        for call in self.CALLS + tuple(reversed(self.CALLS)):
            self.answers(*call)

    def test_an_answer_that_is_changed_does_not_change_the_next(self):
        for expected, n, size, levels in self.CALLS:
            given = list(levels)
            answer = even(n, size, given)
            answer.append(77)
            answer[0] = 78
            self.answers(expected, n, size, given)

    def test_looks_answers_as_before(self):
        levels = [100, 7, 30, 77, 20, 50]
        for expected, n, size, row in self.CALLS:
            self.answers(expected, n, size, list(row))
            self.assertEqual(looks(2, 3, levels, [0, 1, 0, 1, 0, 1]), [150, 80])
            self.assertEqual(looks(2, 2, levels, [0, 1, 0, 1, 0, 1]), [-28])
            self.assertEqual(looks(1, 3, levels, [0, 1, 0, 1, 0, 1]), [-22])

    def test_best_answers_as_before(self):
        levels = [20, 0, 15, 5, 10]
        for expected, n, size, row in self.CALLS:
            self.answers(expected, n, size, list(row))
            self.assertEqual(best(2, 3, levels), [15, 2, 2, 3])
            self.assertEqual(best(2, 2, levels), [-33])
            self.assertEqual(best(0, 3, levels), [-22])
            self.assertEqual(best(4, 2, []), [0, 0])


if __name__ == "__main__":
    unittest.main()
