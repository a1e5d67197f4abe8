"""The document's requirements, points 1 to 7."""

import unittest
from fractions import Fraction
from itertools import product
from math import comb

from helper import LINE, design, expanded, last, lists_with_sum, matrix_of, replies, some_designs

PLANE = [[1, 1], [1, -1], [0, 1], [2, 1]]
CUBE = [[1, 1, 1], [1, 1, -1], [1, -1, 1], [-1, 1, 1], [0, 1, 2]]
SMALL = (LINE, PLANE, [[1], [2], [-2]], [[1, 0], [0, 1], [1, 1], [1, 2]])


def fractions_of(told):
    """The fractions of an answer in which their number stands first."""
    return [Fraction(numerator, denominator) for numerator, denominator in zip(told[1::2], told[2::2])]


def greatest_determinant(rows, size):
    return max(expanded(matrix_of(rows, counts)) for counts in lists_with_sum(len(rows), size))


class Bound(unittest.TestCase):
    """Point 1: no design of a size has a determinant greater than the bound for this size."""

    def test_no_design_is_beyond(self):
        reached = 0
        for rows in SMALL + (CUBE,):
            sizes = range(1, 8 if len(rows) < 5 else 5)
            greatest = [greatest_determinant(rows, size) for size in sizes]
            for counts in product(range(3), repeat=len(rows)):
                bounds = replies(*design(rows, counts), *[("bound", size) for size in sizes])[-len(sizes):]
                for most, told in zip(greatest, bounds):
                    if told != [-33]:
                        self.assertLessEqual(most, told[0])
                        reached += most == told[0]
        self.assertGreater(reached, 100)


class PassesTheTest(unittest.TestCase):
    """Point 2: if a design passes the test, no design of the same size has a greater determinant."""

    def test_no_design_of_the_size_is_greater(self):
        passing = 0
        for rows in SMALL:
            for counts in product(range(4), repeat=len(rows)):
                if last(*design(rows, counts), ("is_optimal",))[0] == 1:
                    passing += 1
                    self.assertEqual(expanded(matrix_of(rows, counts)), greatest_determinant(rows, sum(counts)))
        self.assertGreater(passing, 10)

    def test_nothing_improves_it(self):
        passing = 0
        for rows, counts in some_designs():
            found = replies(*design(rows, counts), ("improve", 20), ("is_optimal",), ("exchange",))[-2:]
            if found[0][0] == 1:
                passing += 1
                self.assertEqual(found[1], [-33])
        self.assertGreater(passing, 3)


class Worst(unittest.TestCase):
    """Point 3: the variance of the worst candidate times the size is at least the number of columns."""

    def test_worst_is_never_below_the_number_of_columns(self):
        regular = 0
        for rows, counts in some_designs():
            found = last(*design(rows, counts), ("is_optimal",))
            if found != [-33]:
                regular += 1
                self.assertGreaterEqual(found[2], len(rows[0]) * found[3])
                variances = fractions_of(last(*design(rows, counts), ("candidate_variances",)))
                self.assertEqual(Fraction(found[2], found[3]), max(variances) * sum(counts))
        self.assertGreater(regular, 40)


class OneMoreRun(unittest.TestCase):
    """Point 4: adding a run with the variance d multiplies the determinant by 1 + d."""

    def test_set_by_hand(self):
        for rows, counts in some_designs():
            before = expanded(matrix_of(rows, counts))
            if before == 0 or max(counts) == 20:
                continue
            variances = fractions_of(last(*design(rows, counts), ("candidate_variances",)))
            for place, variance in enumerate(variances):
                more = list(counts)
                more[place] += 1
                self.assertEqual(last(*design(rows, more), ("determinant",)), [before * (1 + variance)])

    def test_by_add_and_remove(self):
        tried = 0
        for rows, counts in some_designs():
            found = replies(*design(rows, counts), ("determinant",), ("candidate_variances",), ("add",),
                            ("candidate_variances",), ("remove",), ("candidate_variances",))[-6:]
            if found[0] == [0] or found[2] == [-33]:
                continue
            tried += 1
            self.assertEqual(found[2][1], found[0][0] * (1 + fractions_of(found[1])[found[2][0]]))
            if found[5] != [-33]:
                self.assertEqual(found[2][1], found[4][1] * (1 + fractions_of(found[5])[found[4][0]]))
        self.assertGreater(tried, 30)


class Searches(unittest.TestCase):
    """Point 5: the searches are exact: no design of the size is better than the returned one."""

    def test_no_design_is_better(self):
        for rows, size in ((LINE, 9), (PLANE, 5), (CUBE, 4), ([[1, 2], [3, -1], [-4, 2], [5, 5], [0, 7]], 3)):
            start = design(rows, [0] * len(rows))
            best = last(*start, ("best", size))
            by_trace = last(*start, ("best_by_trace", size))
            for counts in lists_with_sum(len(rows), size):
                value, trace = replies(*design(rows, counts), ("determinant",), ("trace",))[-2:]
                self.assertLessEqual((value[0], counts), (best[0], best[1:]))
                if trace != [-33]:
                    self.assertGreaterEqual(Fraction(trace[1], trace[2]), Fraction(by_trace[1], by_trace[2]))
            self.assertEqual(replies(*design(rows, best[1:]), ("determinant",))[-2:], [[size], best[:1]])
            self.assertEqual(replies(*design(rows, by_trace[3:]), ("trace",))[-2:], [[size], by_trace[:3]])

    def test_improve_never_gets_beyond_it(self):
        for rows, counts in some_designs():
            size = sum(counts)
            if 1 <= size <= 20 and comb(size + len(rows) - 1, size) <= 500:
                found = replies(*design(rows, counts), ("determinant",), ("improve", 20), ("take_best", size))[-3:]
                if found[2] == [-33]:
                    self.assertEqual(found[:2], [[0], [0, 0]])
                else:
                    self.assertLessEqual(found[0][0], found[1][1])
                    self.assertLessEqual(found[1][1], found[2][0])


class Steps(unittest.TestCase):
    """Point 6: multiplicative steps keep the sum, and the weights' determinant never decreases."""

    def test_sum_and_determinant(self):
        greater = 0
        for rows, counts in some_designs():
            found = replies(*design(rows, counts), *[("weights", steps) for steps in range(4)])[-4:]
            if found[0] == [-33]:
                continue
            weights = [fractions_of(told) for told in found]
            self.assertEqual([sum(some) for some in weights], [1] * 4)
            values = [expanded(matrix_of(rows, some)) for some in weights]
            self.assertEqual(values, sorted(values))
            greater += values[3] > values[0]
        self.assertGreater(greater, 30)


class AtLeastAsGood(unittest.TestCase):
    """Point 7: if a design is at least as good as a regular one, no vector has a greater variance in it."""

    def test_no_vector_has_a_greater_variance(self):
        better = 0
        for rows in (LINE, PLANE):
            vectors = [list(vector) for vector in product((-3, -1, 0, 1, 2), repeat=2)]
            designs = [list(counts) for counts in product(range(3), repeat=len(rows))]
            variances = {tuple(counts): replies(*design(rows, counts), *[("variance", vector) for vector in vectors])
                         [-len(vectors):] for counts in designs}
            for counts in designs:
                told = replies(*design(rows, counts), *[("is_at_least_as_good", other) for other in designs])
                for other, answer in zip(designs, told[-len(designs):]):
                    if answer == [1] and variances[tuple(other)][0] != [-33]:
                        better += counts != other
                        for own, its in zip(variances[tuple(counts)], variances[tuple(other)]):
                            self.assertLessEqual(Fraction(own[1], own[2]), Fraction(its[1], its[2]))
        self.assertGreater(better, 100)


if __name__ == "__main__":
    unittest.main()
