"""information, determinant, trace, variance, candidate_variances, is_optimal."""

import unittest

from helper import LINE, NOT_REGULAR, design, expanded, last, matrix_of, numbers, pair, replies, some_designs
from helper import trace_of, units, variance_of


class AgainstTheWords(unittest.TestCase):
    """Each figure beside the one worked out in another way."""

    def test_every_figure(self):
        regular = 0
        for rows, counts in some_designs():
            matrix = matrix_of(rows, counts)
            columns = len(matrix)
            vector = [entry - 10 for entry in numbers(len(rows), 20, columns)]
            found = replies(*design(rows, counts), ("information",), ("determinant",), ("trace",),
                            ("variance", vector), ("candidate_variances",), ("is_optimal",))[-6:]
            self.assertEqual(found[0], [columns] + [entry for row in matrix for entry in row])
            self.assertEqual(found[1], [expanded(matrix)])
            if expanded(matrix) == 0:
                self.assertEqual(found[2:], [[-33]] * 4)
                continue
            regular += 1
            variances = [variance_of(matrix, row) for row in rows]
            worst = max(variances) * sum(counts)
            self.assertEqual(found[2], [0] + pair(trace_of(matrix)))
            self.assertEqual(found[3], [0] + pair(variance_of(matrix, vector)))
            self.assertEqual(found[4], [len(rows)] + [number for value in variances for number in pair(value)])
            self.assertEqual(found[5], [int(worst <= columns), variances.index(max(variances))] + pair(worst))
        self.assertGreater(regular, 40)


class Information(unittest.TestCase):
    def test_example(self):
        self.assertEqual(last(*design(LINE, [1, 2, 1]), ("information",)), [2, 4, 0, 0, 2])

    def test_without_candidates(self):
        for columns in (1, 4):
            self.assertEqual(last(("create", columns), ("information",)), [columns] + [0] * columns ** 2)

    def test_greatest_entries(self):
        rows = [[10, -10, 10, entry] for entry in range(10)]
        found = last(*design(rows, [20] * 10), ("information",))
        self.assertEqual(found[:5], [4, 20000, -20000, 20000, 9000])
        self.assertEqual(found[-1], 20 * sum(entry ** 2 for entry in range(10)))

    def test_follows_the_candidates(self):
        calls = design(LINE, [1, 2, 1])
        found = replies(*calls, ("remove_candidate", 0), ("information",), ("add_candidate", [5, 5]),
                        ("information",))
        self.assertEqual(found[-3:], [[2, 3, 1, 1, 1], [2], [2, 3, 1, 1, 1]])


class Determinant(unittest.TestCase):
    def test_example(self):
        self.assertEqual(last(*design(LINE, [1, 2, 1]), ("determinant",)), [8])

    def test_not_regular(self):
        for calls in NOT_REGULAR:
            self.assertEqual(last(*calls, ("determinant",)), [0])

    def test_one_and_four_columns(self):
        self.assertEqual(last(*design([[-10]], [20]), ("determinant",)), [2000])
        self.assertEqual(last(*design(units(4), [20, 20, 20, 20]), ("determinant",)), [160000])

    def test_a_first_column_of_zeros(self):
        self.assertEqual(last(*design([[0, 1], [0, 2]], [1, 1]), ("determinant",)), [0])
        self.assertEqual(last(*design([[0, 1], [1, 0]], [3, 2]), ("determinant",)), [6])

    def test_beyond_64_bits_is_exact(self):
        rows = [[10 * sign for sign in signs] for signs in
                ([1, 1, 1, 1], [1, -1, 1, -1], [1, 1, -1, -1], [1, -1, -1, 1], [-1, -1, -1, -1],
                 [-1, 1, -1, 1], [-1, -1, 1, 1], [-1, 1, 1, -1])]
        self.assertEqual(last(*design(rows, [20] * 8), ("determinant",)), [16000 ** 4])


class Trace(unittest.TestCase):
    def test_example(self):
        self.assertEqual(last(*design(LINE, [1, 2, 1]), ("trace",)), [0, 3, 4])

    def test_whole_number_has_the_denominator_1(self):
        self.assertEqual(last(*design(units(2), [1, 1]), ("trace",)), [0, 2, 1])
        self.assertEqual(last(*design(units(4), [2, 2, 2, 2]), ("trace",)), [0, 2, 1])

    def test_one_column(self):
        self.assertEqual(last(*design([[4]], [3]), ("trace",)), [0, 1, 48])

    def test_not_regular(self):
        for calls in NOT_REGULAR:
            self.assertEqual(last(*calls, ("trace",)), [-33])


class Variance(unittest.TestCase):
    def test_lowest_terms(self):
        calls = design(LINE, [1, 2, 1])
        self.assertEqual(last(*calls, ("variance", [1, 1])), [0, 3, 4])
        self.assertEqual(last(*calls, ("variance", [0, 2])), [0, 2, 1])
        self.assertEqual(last(*calls, ("variance", [10, -10])), [0, 75, 1])

    def test_vector_of_zeros(self):
        self.assertEqual(last(*design(LINE, [1, 2, 1]), ("variance", [0, 0])), [0, 0, 1])

    def test_columns_that_only_a_third_one_ties(self):
        calls = design([[1, 0, 1], [0, 1, 1], [0, 0, 1]], [1, 1, 1])
        self.assertEqual(last(*calls, ("variance", [1, 1, 0])), [0, 6, 1])
        self.assertEqual(last(*calls, ("variance", [1, -1, 0])), [0, 2, 1])

    def test_vector_outside(self):
        calls = design(LINE, [1, 2, 1])
        for vector in ([11, 0], [0, -11], [0, 2147483647], [-2147483648, 0], [], [1], [1, 1, 1], [1] * 40):
            self.assertEqual(last(*calls, ("variance", vector)), [-22])

    def test_not_regular(self):
        for calls in NOT_REGULAR:
            self.assertEqual(last(*calls, ("variance", [1] * calls[0][1])), [-33])

    def test_order_of_the_errors(self):
        for calls in NOT_REGULAR:
            self.assertEqual(last(*calls, ("variance", [11] * calls[0][1])), [-22])
            self.assertEqual(last(*calls, ("variance", [0] * (calls[0][1] + 1))), [-22])


class CandidateVariances(unittest.TestCase):
    def test_example(self):
        self.assertEqual(last(*design(LINE, [1, 2, 1]), ("candidate_variances",)), [3, 3, 4, 1, 4, 3, 4])

    def test_unused_candidates_and_zeros_are_told_too(self):
        self.assertEqual(last(*design([[1], [0], [-10]], [3, 0, 0]), ("candidate_variances",)),
                         [3, 1, 3, 0, 1, 100, 3])

    def test_ten_candidates_have_21_numbers(self):
        rows = [[entry] for entry in range(1, 11)]
        found = last(*design(rows, [20] * 10), ("candidate_variances",))
        self.assertEqual(len(found), 21)
        self.assertEqual(found[:3], [10, 1, 7700])

    def test_not_regular(self):
        for calls in NOT_REGULAR:
            self.assertEqual(last(*calls, ("candidate_variances",)), [-33])


class IsOptimal(unittest.TestCase):
    def test_examples(self):
        self.assertEqual(last(*design(LINE, [1, 2, 1]), ("is_optimal",)), [0, 0, 3, 1])
        self.assertEqual(last(*design(LINE, [3, 0, 3]), ("is_optimal",)), [1, 0, 2, 1])

    def test_exactly_the_number_of_columns_passes(self):
        self.assertEqual(last(*design([[1]], [7]), ("is_optimal",)), [1, 0, 1, 1])
        self.assertEqual(last(*design(units(4), [1, 1, 1, 1]), ("is_optimal",)), [1, 0, 4, 1])

    def test_little_more_does_not_pass(self):
        self.assertEqual(last(*design(units(2), [20, 19]), ("is_optimal",)), [0, 1, 39, 19])

    def test_the_first_of_several_worst(self):
        self.assertEqual(last(*design([[1], [-3], [3]], [1, 0, 0]), ("is_optimal",)), [0, 1, 9, 1])
        self.assertEqual(last(*design([[1], [2], [3]], [1, 0, 0]), ("is_optimal",)), [0, 2, 9, 1])

    def test_the_worst_may_be_unused(self):
        self.assertEqual(last(*design([[1], [10]], [20, 0]), ("is_optimal",)), [0, 1, 100, 1])

    def test_not_regular(self):
        for calls in NOT_REGULAR:
            self.assertEqual(last(*calls, ("is_optimal",)), [-33])


class FiguresChangeNothing(unittest.TestCase):
    def test_state_and_second_asking(self):
        asked = [("information",), ("determinant",), ("trace",), ("variance", [1, 2]), ("candidate_variances",),
                 ("is_optimal",), ("counts",), ("get_candidate", 2)]
        for counts in ([1, 2, 1], [0, 1, 0]):
            found = replies(*design(LINE, counts), *asked, *asked)[5:]
            self.assertEqual(found[:8], found[8:])
            self.assertEqual(found[6:8], [[3] + counts, [2, 1, 1]])


if __name__ == "__main__":
    unittest.main()
