"""information, determinant, trace, variance, candidate_variances, is_optimal."""

import unittest
from fractions import Fraction
from itertools import product

from calling import design, last, replies

LINE = [[1, -1], [1, 0], [1, 1]]
NOT_REGULAR = (
    design(LINE, [0, 0, 0]),
    design(LINE, [0, 20, 0]),
    design([[1, 2], [-2, -4], [3, 6]], [1, 1, 1]),
    design([[1, 1, 0, 0], [0, 0, 1, 1], [1, 1, 1, 1], [1, 1, -1, -1]], [2, 2, 2, 2]),
    [("create", 1)],
    [("create", 4)],
    design([[0]], [20]),
)


def numbers(start, greatest, length):
    """A list of numbers from 0 to the greatest; each start gives the same list every time."""
    found = []
    state = start * 7919 + 12345
    for _ in range(length):
        state = (state * 1103515245 + 12345) % 2147483648
        found.append((state >> 12) % (greatest + 1))
    return found


def some_designs():
    """Designs of 1 to 4 columns with few and many candidates, small and great entries and counts."""
    for start in range(80):
        columns = start % 4 + 1
        reach = (1, 3, 10)[start % 3]
        drawn = numbers(start, 2 * reach, 40)
        rows = []
        for place in range(0, 40 - columns, columns):
            row = [entry - reach for entry in drawn[place:place + columns]]
            if row not in rows and len(rows) < start % 10 + 1:
                rows.append(row)
        yield rows, numbers(start + 500, (2, 20)[start % 2], len(rows))


def matrix_of(rows, counts):
    """The information matrix, by the words of the document."""
    places = range(len(rows[0]))
    return [[sum(count * row[i] * row[j] for row, count in zip(rows, counts)) for j in places] for i in places]


def expanded(matrix):
    """The determinant by expansion along the first row."""
    if not matrix:
        return 1
    return sum((-1) ** place * entry * expanded([row[:place] + row[place + 1:] for row in matrix[1:]])
               for place, entry in enumerate(matrix[0]))


def solved(matrix, vector):
    """The solution z of M z = c, by elimination over fractions."""
    rows = [[Fraction(entry) for entry in row] + [Fraction(right)] for row, right in zip(matrix, vector)]
    for step in range(len(rows)):
        chosen = next(place for place in range(step, len(rows)) if rows[place][step] != 0)
        rows[step], rows[chosen] = rows[chosen], rows[step]
        rows[step] = [entry / rows[step][step] for entry in rows[step]]
        for place in range(len(rows)):
            if place != step:
                factor = rows[place][step]
                rows[place] = [entry - factor * above for entry, above in zip(rows[place], rows[step])]
    return [row[-1] for row in rows]


def variance_of(matrix, vector):
    return sum(z * c for z, c in zip(solved(matrix, vector), vector))


def units(columns):
    return [[int(place == other) for other in range(columns)] for place in range(columns)]


def pair(fraction):
    return [fraction.numerator, fraction.denominator]


class AgainstTheWords(unittest.TestCase):
    """Each figure beside the one worked out in another way."""

    def test_every_figure(self):
        regular = 0
        for rows, counts in some_designs():
            matrix = matrix_of(rows, counts)
            columns = len(matrix)
            vector = [entry - 10 for entry in numbers(len(rows), 20, columns)]
            found = replies(*design(rows, counts), ("information",), ("determinant",), ("trace",),
                            ("variance", vector), ("candidate_variances",), ("is_optimal",))[-6:]
            self.assertEqual(found[0], [columns] + [entry for row in matrix for entry in row])
            self.assertEqual(found[1], [expanded(matrix)])
            if expanded(matrix) == 0:
                self.assertEqual(found[2:], [[-33]] * 4)
                continue
            regular += 1
            variances = [variance_of(matrix, row) for row in rows]
            worst = max(variances) * sum(counts)
            trace = sum(variance_of(matrix, unit) for unit in units(columns))
            self.assertEqual(found[2], [0] + pair(trace))
            self.assertEqual(found[3], [0] + pair(variance_of(matrix, vector)))
            self.assertEqual(found[4], [len(rows)] + [number for value in variances for number in pair(value)])
            self.assertEqual(found[5], [int(worst <= columns), variances.index(max(variances))] + pair(worst))
        self.assertGreater(regular, 40)


class Information(unittest.TestCase):
    def test_example(self):
        self.assertEqual(last(*design(LINE, [1, 2, 1]), ("information",)), [2, 4, 0, 0, 2])

    def test_without_candidates(self):
        for columns in (1, 4):
            self.assertEqual(last(("create", columns), ("information",)), [columns] + [0] * columns ** 2)

    def test_greatest_entries(self):
        rows = [[10, -10, 10, entry] for entry in range(10)]
        found = last(*design(rows, [20] * 10), ("information",))
        self.assertEqual(found[:5], [4, 20000, -20000, 20000, 9000])
        self.assertEqual(found[-1], 20 * sum(entry ** 2 for entry in range(10)))

    def test_follows_the_candidates(self):
        calls = design(LINE, [1, 2, 1])
        found = replies(*calls, ("remove_candidate", 0), ("information",), ("add_candidate", [5, 5]),
                        ("information",))
        self.assertEqual(found[-3:], [[2, 3, 1, 1, 1], [2], [2, 3, 1, 1, 1]])


class Determinant(unittest.TestCase):
    def test_example(self):
        self.assertEqual(last(*design(LINE, [1, 2, 1]), ("determinant",)), [8])

    def test_not_regular(self):
        for calls in NOT_REGULAR:
            self.assertEqual(last(*calls, ("determinant",)), [0])

    def test_one_and_four_columns(self):
        self.assertEqual(last(*design([[-10]], [20]), ("determinant",)), [2000])
        self.assertEqual(last(*design(units(4), [20, 20, 20, 20]), ("determinant",)), [160000])

    def test_a_first_column_of_zeros(self):
        self.assertEqual(last(*design([[0, 1], [0, 2]], [1, 1]), ("determinant",)), [0])
        self.assertEqual(last(*design([[0, 1], [1, 0]], [3, 2]), ("determinant",)), [6])

    def test_beyond_64_bits_is_exact(self):
        rows = [[10 * sign for sign in signs] for signs in
                ([1, 1, 1, 1], [1, -1, 1, -1], [1, 1, -1, -1], [1, -1, -1, 1], [-1, -1, -1, -1],
                 [-1, 1, -1, 1], [-1, -1, 1, 1], [-1, 1, 1, -1])]
        self.assertEqual(last(*design(rows, [20] * 8), ("determinant",)), [16000 ** 4])

    def test_a_run_multiplies_by_one_and_its_variance(self):
        for rows, counts in some_designs():
            before = expanded(matrix_of(rows, counts))
            if before == 0 or max(counts) == 20:
                continue
            variances = last(*design(rows, counts), ("candidate_variances",))
            for place in range(len(rows)):
                more = list(counts)
                more[place] += 1
                after = last(*design(rows, more), ("determinant",))[0]
                factor = 1 + Fraction(variances[1 + 2 * place], variances[2 + 2 * place])
                self.assertEqual(after, before * factor)


class Trace(unittest.TestCase):
    def test_example(self):
        self.assertEqual(last(*design(LINE, [1, 2, 1]), ("trace",)), [0, 3, 4])

    def test_whole_number_has_the_denominator_1(self):
        self.assertEqual(last(*design(units(2), [1, 1]), ("trace",)), [0, 2, 1])
        self.assertEqual(last(*design(units(4), [2, 2, 2, 2]), ("trace",)), [0, 2, 1])

    def test_one_column(self):
        self.assertEqual(last(*design([[4]], [3]), ("trace",)), [0, 1, 48])

    def test_not_regular(self):
        for calls in NOT_REGULAR:
            self.assertEqual(last(*calls, ("trace",)), [-33])


class Variance(unittest.TestCase):
    def test_lowest_terms(self):
        calls = design(LINE, [1, 2, 1])
        self.assertEqual(last(*calls, ("variance", [1, 1])), [0, 3, 4])
        self.assertEqual(last(*calls, ("variance", [0, 2])), [0, 2, 1])
        self.assertEqual(last(*calls, ("variance", [10, -10])), [0, 75, 1])

    def test_vector_of_zeros(self):
        self.assertEqual(last(*design(LINE, [1, 2, 1]), ("variance", [0, 0])), [0, 0, 1])

    def test_columns_that_only_a_third_one_ties(self):
        calls = design([[1, 0, 1], [0, 1, 1], [0, 0, 1]], [1, 1, 1])
        self.assertEqual(last(*calls, ("variance", [1, 1, 0])), [0, 6, 1])
        self.assertEqual(last(*calls, ("variance", [1, -1, 0])), [0, 2, 1])

    def test_vector_outside(self):
        calls = design(LINE, [1, 2, 1])
        for vector in ([11, 0], [0, -11], [0, 2147483647], [-2147483648, 0], [], [1], [1, 1, 1], [1] * 40):
            self.assertEqual(last(*calls, ("variance", vector)), [-22])

    def test_not_regular(self):
        for calls in NOT_REGULAR:
            self.assertEqual(last(*calls, ("variance", [1] * calls[0][1])), [-33])

    def test_order_of_the_errors(self):
        for calls in NOT_REGULAR:
            self.assertEqual(last(*calls, ("variance", [11] * calls[0][1])), [-22])
            self.assertEqual(last(*calls, ("variance", [0] * (calls[0][1] + 1))), [-22])


class CandidateVariances(unittest.TestCase):
    def test_example(self):
        self.assertEqual(last(*design(LINE, [1, 2, 1]), ("candidate_variances",)), [3, 3, 4, 1, 4, 3, 4])

    def test_unused_candidates_and_zeros_are_told_too(self):
        self.assertEqual(last(*design([[1], [0], [-10]], [3, 0, 0]), ("candidate_variances",)),
                         [3, 1, 3, 0, 1, 100, 3])

    def test_ten_candidates_have_21_numbers(self):
        rows = [[entry] for entry in range(1, 11)]
        found = last(*design(rows, [20] * 10), ("candidate_variances",))
        self.assertEqual(len(found), 21)
        self.assertEqual(found[:3], [10, 1, 7700])

    def test_not_regular(self):
        for calls in NOT_REGULAR:
            self.assertEqual(last(*calls, ("candidate_variances",)), [-33])


class IsOptimal(unittest.TestCase):
    def test_examples(self):
        self.assertEqual(last(*design(LINE, [1, 2, 1]), ("is_optimal",)), [0, 0, 3, 1])
        self.assertEqual(last(*design(LINE, [3, 0, 3]), ("is_optimal",)), [1, 0, 2, 1])

    def test_exactly_the_number_of_columns_passes(self):
        self.assertEqual(last(*design([[1]], [7]), ("is_optimal",)), [1, 0, 1, 1])
        self.assertEqual(last(*design(units(4), [1, 1, 1, 1]), ("is_optimal",)), [1, 0, 4, 1])

    def test_little_more_does_not_pass(self):
        self.assertEqual(last(*design(units(2), [20, 19]), ("is_optimal",)), [0, 1, 39, 19])

    def test_the_first_of_several_worst(self):
        self.assertEqual(last(*design([[1], [-3], [3]], [1, 0, 0]), ("is_optimal",)), [0, 1, 9, 1])
        self.assertEqual(last(*design([[1], [2], [3]], [1, 0, 0]), ("is_optimal",)), [0, 2, 9, 1])

    def test_the_worst_may_be_unused(self):
        self.assertEqual(last(*design([[1], [10]], [20, 0]), ("is_optimal",)), [0, 1, 100, 1])

    def test_not_regular(self):
        for calls in NOT_REGULAR:
            self.assertEqual(last(*calls, ("is_optimal",)), [-33])

    def test_worst_is_never_below_the_number_of_columns(self):
        for rows, counts in some_designs():
            found = last(*design(rows, counts), ("is_optimal",))
            if found != [-33]:
                self.assertGreaterEqual(found[2], len(rows[0]) * found[3])

    def test_no_design_of_the_size_beats_one_that_passes(self):
        passing = 0
        for rows in (LINE, [[1], [2], [-2]], [[1, 1], [1, -1], [0, 1], [2, 1]]):
            for counts in product(range(4), repeat=len(rows)):
                found = last(*design(rows, counts), ("is_optimal",))
                if found[0] == 1:
                    passing += 1
                    greatest = max(expanded(matrix_of(rows, others)) for others
                                   in product(range(sum(counts) + 1), repeat=len(rows)) if sum(others) == sum(counts))
                    self.assertEqual(expanded(matrix_of(rows, counts)), greatest)
        self.assertGreater(passing, 3)


class FiguresChangeNothing(unittest.TestCase):
    def test_state_and_second_asking(self):
        asked = [("information",), ("determinant",), ("trace",), ("variance", [1, 2]), ("candidate_variances",),
                 ("is_optimal",), ("counts",), ("get_candidate", 2)]
        for counts in ([1, 2, 1], [0, 1, 0]):
            found = replies(*design(LINE, counts), *asked, *asked)[5:]
            self.assertEqual(found[:8], found[8:])
            self.assertEqual(found[6:8], [[3] + counts, [2, 1, 1]])


if __name__ == "__main__":
    unittest.main()
