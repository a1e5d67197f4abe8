"""bound, weights, compare, is_at_least_as_good, summary."""

import unittest
from fractions import Fraction
from itertools import combinations
from math import floor

from helper import BIGGEST, LINE, NOT_REGULAR, StateKept, design, expanded, last, matrix_of, numbers, pair, replies
from helper import some_designs, trace_of, units, variance_of

TEN = design([[1, entry] for entry in range(10)], [20] * 10)


def bound_of(rows, counts, size):
    """The bound by the words of the document."""
    matrix = matrix_of(rows, counts)
    worst = max(variance_of(matrix, row) for row in rows)
    return floor(expanded(matrix) * (size * worst / len(matrix)) ** len(matrix))


class Bound(StateKept):
    def test_examples(self):
        self.assertEqual(last(*design(LINE, [1, 2, 1]), ("bound", 4)), [18])
        self.assertEqual(last(*design(LINE, [2, 0, 2]), ("bound", 5)), [25])
        self.assertEqual(last(*design(LINE, [3, 2, 0]), ("bound", 4)), [bound_of(LINE, [3, 2, 0], 4)])

    def test_by_the_words(self):
        regular = 0
        for rows, counts in some_designs():
            for size in (1, 2, 7, 20, 21, 99, 100):
                found = last(*design(rows, counts), ("bound", size))
                if expanded(matrix_of(rows, counts)) == 0:
                    self.assertEqual(found, [-33])
                else:
                    regular += 1
                    self.assertEqual(found, [bound_of(rows, counts, size)])
        self.assertGreater(regular, 200)

    def test_rounded_down(self):
        # Ahead of rounding: 1, 9/8, 49, 9/4, 49/4, 8/27.
        self.assertEqual(last(*design(LINE, [2, 0, 2]), ("bound", 1)), [1])
        self.assertEqual(last(*design(LINE, [1, 2, 1]), ("bound", 1)), [1])
        self.assertEqual(last(*design(LINE, [1, 0, 1]), ("bound", 7)), [49])
        self.assertEqual(last(*design(units(2), [1, 1]), ("bound", 3)), [2])
        self.assertEqual(last(*design(units(2), [1, 1]), ("bound", 7)), [12])
        self.assertEqual(last(*design(units(3), [1, 1, 1]), ("bound", 2)), [0])

    def test_beyond_64_bits_is_exact(self):
        rows = [[10, 10], [10, -10], [1, 0]]
        self.assertEqual(last(*design(rows, [0, 1, 20]), ("bound", 100)), [bound_of(rows, [0, 1, 20], 100)])
        rows = [[10, 10, 10, 10], [10, -10, 10, -10], [10, 10, -10, -10], [10, -10, -10, 10]]
        self.assertEqual(last(*design(rows, [20] * 4), ("bound", 100)), [10000 ** 4])

    def test_sizes_outside(self):
        for size in (0, 101, 200, BIGGEST):
            self.refused(design(LINE, [1, 2, 1]), ("bound", size), -22)

    def test_sizes_at_the_edges(self):
        self.assertEqual(last(*design([[1]], [20]), ("bound", 1)), [1])
        self.assertEqual(last(*design([[1]], [20]), ("bound", 100)), [100])

    def test_not_regular_and_the_order_of_the_errors(self):
        for calls in NOT_REGULAR:
            self.refused(calls, ("bound", 1), -33)
            self.refused(calls, ("bound", 100), -33)
            self.refused(calls, ("bound", 0), -22)
            self.refused(calls, ("bound", 101), -22)

    def test_leaves_the_design(self):
        self.unchanged(design(LINE, [1, 2, 1]), ("bound", 4))


def weights_of(rows, steps):
    """The weights by the words of the document."""
    found = [Fraction(1, len(rows)) for row in rows]
    for _ in range(steps):
        matrix = matrix_of(rows, found)
        found = [weight * variance_of(matrix, row) / len(matrix) for weight, row in zip(found, rows)]
    return found


class Weights(StateKept):
    def test_example(self):
        self.assertEqual(last(*design(LINE, [3, 2, 0]), ("weights", 1)), [3, 5, 12, 1, 6, 5, 12])

    def test_no_step(self):
        self.assertEqual(last(*design(LINE, [3, 2, 0]), ("weights", 0)), [3, 1, 3, 1, 3, 1, 3])
        self.assertEqual(last(*TEN, ("weights", 0)), [10] + [1, 10] * 10)
        self.assertEqual(last(*design([[5]], [0]), ("weights", 0)), [1, 1, 1])

    def test_by_the_words(self):
        regular = 0
        for rows, counts in some_designs():
            for steps in (0, 1, 2, 3):
                found = last(*design(rows, counts), ("weights", steps))
                if expanded(matrix_of(rows, [1] * len(rows))) == 0:
                    self.assertEqual(found, [-33])
                else:
                    regular += 1
                    told = [number for weight in weights_of(rows, steps) for number in pair(weight)]
                    self.assertEqual(found, [len(rows)] + told)
        self.assertGreater(regular, 150)

    def test_the_counts_do_not_matter(self):
        for counts in ([0, 0, 0], [0, 20, 0], [20, 1, 7]):
            self.assertEqual(last(*design(LINE, counts), ("weights", 1)), [3, 5, 12, 1, 6, 5, 12])

    def test_a_weight_of_0(self):
        for steps in (1, 2, 3):
            self.assertEqual(last(*design([[0], [3]], [0, 0]), ("weights", steps)), [2, 0, 1, 1, 1])

    def test_steps_outside(self):
        self.assertEqual(len(last(*design(LINE, [1, 2, 1]), ("weights", 3))), 7)
        for steps in (4, 5, 100, BIGGEST):
            self.refused(design(LINE, [1, 2, 1]), ("weights", steps), -22)

    def test_not_regular_and_the_order_of_the_errors(self):
        calls = (design([[1, 2], [-2, -4], [3, 6]], [1, 1, 1]), design([[0]], [20]), design([[1, 0, 0]], [20]),
                 [("create", 1)], [("create", 4)])
        for before in calls:
            self.refused(before, ("weights", 0), -33)
            self.refused(before, ("weights", 3), -33)
            self.refused(before, ("weights", 4), -22)

    def test_leaves_the_design(self):
        self.unchanged(design(LINE, [1, 2, 1]), ("weights", 2))


def sign(number):
    return (number > 0) - (number < 0)


class Compare(StateKept):
    def test_examples(self):
        self.assertEqual(last(*design(LINE, [2, 0, 2]), ("compare", [1, 2, 1])), [1, 1])
        self.assertEqual(last(*design(LINE, [1, 2, 1]), ("compare", [2, 0, 2])), [-1, -1])
        self.assertEqual(last(*design(LINE, [1, 2, 1]), ("compare", [1, 2, 1])), [0, 0])

    def test_by_the_words(self):
        found = []
        for start, (rows, counts) in enumerate(some_designs()):
            other = numbers(start + 900, (2, 20)[start % 2], len(rows))
            told = last(*design(rows, counts), ("compare", other))
            both = [matrix_of(rows, counts), matrix_of(rows, other)]
            if expanded(both[0]) == 0 or expanded(both[1]) == 0:
                self.assertEqual(told, [-33])
            else:
                self.assertEqual(told, [sign(expanded(both[0]) - expanded(both[1])),
                                        sign(trace_of(both[1]) - trace_of(both[0]))])
                found.append(tuple(told))
        self.assertLess({(1, 1), (-1, -1)}, set(found))

    def test_both_signs_apart(self):
        rows = [[-2, -2], [-2, 0], [-1, 2]]
        self.assertEqual(last(*design(rows, [1, 1, 1]), ("compare", [1, 0, 2])), [-1, 0])
        self.assertEqual(last(*design(rows, [1, 0, 2]), ("compare", [1, 1, 1])), [1, 0])
        rows = [[1, 0], [0, 2]]
        self.assertEqual(last(*design(rows, [4, 2]), ("compare", [3, 3])), [-1, 1])
        self.assertEqual(last(*design(rows, [3, 3]), ("compare", [4, 2])), [1, -1])
        self.assertEqual(last(*design(rows, [1, 4]), ("compare", [2, 2])), [0, -1])
        self.assertEqual(last(*design(rows, [2, 2]), ("compare", [1, 4])), [0, 1])

    def test_determinants_next_to_each_other(self):
        self.assertEqual(last(*design([[1]], [2]), ("compare", [1])), [1, 1])
        self.assertEqual(last(*design([[1]], [1]), ("compare", [2])), [-1, -1])

    def test_traces_are_compared_as_fractions(self):
        self.assertEqual(last(*design(units(2), [5, 7]), ("compare", [6, 6])), [-1, -1])
        self.assertEqual(last(*design(units(2), [20, 20]), ("compare", [19, 20])), [1, 1])

    def test_counts_outside(self):
        calls = design(LINE, [1, 2, 1])
        for wrong in ([1, 2, 21], [21, 0, 0], [1, 2, BIGGEST], [], [1, 2], [1, 2, 1, 0], [1] * 40):
            self.refused(calls, ("compare", wrong), -22)
        self.assertEqual(last(*calls, ("compare", [20, 20, 20])), [-1, -1])
        self.assertEqual(last(*calls, ("compare", [20, 0, 20])), [-1, -1])

    def test_one_of_both_not_regular(self):
        self.refused(design(LINE, [1, 2, 1]), ("compare", [0, 20, 0]), -33)
        self.refused(design(LINE, [0, 20, 0]), ("compare", [1, 2, 1]), -33)
        self.refused(design(LINE, [0, 0, 0]), ("compare", [0, 0, 0]), -33)
        self.refused([("create", 2)], ("compare", []), -33)

    def test_order_of_the_errors(self):
        self.refused(design(LINE, [0, 20, 0]), ("compare", [0, 21, 0]), -22)
        self.refused(design(LINE, [0, 20, 0]), ("compare", [0, 20]), -22)
        self.refused([("create", 2)], ("compare", [0]), -22)

    def test_leaves_the_design(self):
        self.unchanged(design(LINE, [1, 2, 1]), ("compare", [2, 0, 2]))


def at_least_as_good(rows, counts, other):
    """1 or 0 by the words of the document."""
    difference = matrix_of(rows, [own - count for own, count in zip(counts, other)])
    places = range(len(difference))
    minors = [expanded([[difference[i][j] for j in chosen] for i in chosen])
              for length in range(1, len(difference) + 1) for chosen in combinations(places, length)]
    return int(min(minors) >= 0)


class IsAtLeastAsGood(StateKept):
    def asked(self, rows, counts, other):
        return last(*design(rows, counts), ("is_at_least_as_good", other))

    def test_examples(self):
        self.assertEqual(self.asked(LINE, [2, 0, 2], [1, 2, 1]), [1])
        self.assertEqual(self.asked(LINE, [1, 2, 1], [2, 0, 2]), [0])

    def test_by_the_words(self):
        found = []
        for start, (rows, counts) in enumerate(some_designs()):
            drawn = numbers(start + 900, 20, len(rows))
            fewer = [count // 2 for count in counts]
            for other in (drawn, counts, fewer, [min(own, count + 1) for own, count in zip(counts, fewer)],
                          [1] + fewer[1:], [0] * len(rows), [20] * len(rows)):
                self.assertEqual(self.asked(rows, counts, other), [at_least_as_good(rows, counts, other)])
                found.append(at_least_as_good(rows, counts, other))
        self.assertGreater(found.count(0), 100)
        self.assertGreater(found.count(1), 100)

    def test_as_good_as_itself(self):
        for counts in ([0, 0, 0], [0, 20, 0], [1, 2, 1]):
            self.assertEqual(self.asked(LINE, counts, counts), [1])

    def test_neither(self):
        self.assertEqual(self.asked(units(2), [2, 1], [1, 2]), [0])
        self.assertEqual(self.asked(units(2), [1, 2], [2, 1]), [0])

    def test_one_negative_place_on_the_diagonal(self):
        for columns in (1, 2, 3, 4):
            for place in range(columns):
                own = [3] * columns
                own[place] = 1
                self.assertEqual(self.asked(units(columns), own, [2] * columns), [0])
                self.assertEqual(self.asked(units(columns), [int(other != place) for other in range(columns)],
                                            [int(other == place) for other in range(columns)]), [0])

    def test_an_even_number_of_negative_places(self):
        self.assertEqual(self.asked(units(2), [1, 1], [2, 2]), [0])
        self.assertEqual(self.asked(units(4), [1, 1, 1, 1], [2, 2, 2, 2]), [0])

    def test_two_columns_that_only_their_minor_tells(self):
        for columns in (2, 3, 4):
            for first, second in combinations(range(columns), 2):
                sides = [units(columns)[first], units(columns)[second]]
                both = [one + other for one, other in zip(*sides)]
                self.assertEqual(self.asked([both] + sides, [1, 0, 0], [0, 1, 1]), [0])

    def test_three_columns_that_only_their_minor_tells(self):
        for left_out in range(4):
            rows = [[1, 1, 1], [0, 1, -1], [0, 1, 0], [0, 0, 1]]
            self.assertEqual(self.asked(rows, [1, 2, 0, 0], [0, 0, 2, 2]), [0])
            wider = [row[:left_out] + [0] + row[left_out:] for row in rows]
            self.assertEqual(self.asked(wider, [1, 2, 0, 0], [0, 0, 2, 2]), [0])

    def test_four_columns_that_only_their_minor_tells(self):
        # 7 times the unit matrix less twice the matrix of ones: every smaller minor of it is above 0.
        rows = units(4) + [[1, 1, 1, 1]]
        self.assertEqual(self.asked(rows, [7, 7, 7, 7, 0], [0, 0, 0, 0, 2]), [0])
        self.assertEqual(self.asked(rows, [8, 8, 8, 8, 0], [0, 0, 0, 0, 2]), [1])
        self.assertEqual(self.asked(rows, [7, 8, 8, 9, 0], [0, 0, 0, 0, 2]), [0])

    def test_designs_that_are_not_regular(self):
        self.assertEqual(self.asked(LINE, [0, 2, 0], [0, 1, 0]), [1])
        self.assertEqual(self.asked(LINE, [0, 1, 0], [0, 2, 0]), [0])
        self.assertEqual(self.asked(LINE, [0, 0, 0], [0, 0, 0]), [1])
        self.assertEqual(last(("create", 4), ("is_at_least_as_good", [])), [1])

    def test_counts_outside(self):
        calls = design(LINE, [1, 2, 1])
        for wrong in ([1, 2, 21], [21, 0, 0], [1, 2, BIGGEST], [], [1, 2], [1, 2, 1, 0], [1] * 40):
            self.refused(calls, ("is_at_least_as_good", wrong), -22)
        self.refused([("create", 2)], ("is_at_least_as_good", [0]), -22)
        self.assertEqual(self.asked(LINE, [20, 20, 20], [20, 0, 20]), [1])
        self.assertEqual(self.asked(LINE, [20, 0, 20], [20, 20, 20]), [0])

    def test_leaves_the_design(self):
        self.unchanged(design(LINE, [1, 2, 1]), ("is_at_least_as_good", [2, 0, 2]))


class Summary(StateKept):
    def test_numbers(self):
        for columns in (1, 2, 3, 4):
            self.assertEqual(last(("create", columns), ("summary",)), [columns, 0, 0])
        self.assertEqual(last(*design(LINE, [1, 2, 4]), ("summary",)), [2, 3, 7])
        self.assertEqual(last(*TEN, ("summary",)), [2, 10, 200])

    def test_follows_the_calls(self):
        found = replies(*design(LINE, [1, 2, 4]), ("add",), ("summary",), ("exchange",), ("summary",),
                        ("remove_candidate", 1), ("summary",), ("take_best", 5), ("summary",), ("remove",),
                        ("summary",), ("create", 3), ("summary",))
        self.assertEqual(found[6::2], [[2, 3, 8], [2, 3, 8], [2, 2, 7], [2, 2, 5], [2, 2, 4], [3, 0, 0]])

    def test_leaves_the_design(self):
        self.unchanged(design(LINE, [1, 2, 1]), ("summary",))


if __name__ == "__main__":
    unittest.main()
