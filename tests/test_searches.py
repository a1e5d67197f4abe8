"""exchange, improve, add, remove, best, best_by_trace, take_best."""

import unittest
from fractions import Fraction
from math import comb

from helper import BIGGEST, LINE, StateKept, design, expanded, last, lists_with_sum, matrix_of, pair, replies
from helper import some_designs, trace_of, units

SEARCHES = ("best", "best_by_trace", "take_best")


def determinant_of(rows, counts):
    return expanded(matrix_of(rows, counts))


def moved(counts, removed, added):
    """The counts with one run less of one candidate and one more of another; None stands for none."""
    found = list(counts)
    if removed is not None:
        found[removed] -= 1
    if added is not None:
        found[added] += 1
    return found


def best_exchange(rows, counts):
    """The best exchange by the words: removed, added, determinant; None if there is none."""
    found = None
    greatest = determinant_of(rows, counts)
    for i in range(len(rows)):
        for j in range(len(rows)):
            if i != j and counts[i] >= 1 and counts[j] <= 19:
                value = determinant_of(rows, moved(counts, i, j))
                if value > greatest:
                    found = [i, j, value]
                    greatest = value
    return found


class Searching(StateKept):
    def told(self, calls, call, answer, counts):
        """The call answers this, and these are the counts behind it."""
        self.assertEqual(replies(*calls, call, ("counts",))[-2:], [answer, [len(counts)] + counts])


class Exchange(Searching):
    def test_example(self):
        self.told(design(LINE, [1, 2, 1]), ("exchange",), [1, 0, 11], [2, 1, 1])
        self.told(design(LINE, [2, 1, 1]), ("exchange",), [1, 2, 16], [2, 0, 2])

    def test_by_the_words(self):
        there = 0
        for rows, counts in some_designs():
            best = best_exchange(rows, counts)
            if best is None:
                self.refused(design(rows, counts), ("exchange",), -33)
            else:
                there += 1
                self.told(design(rows, counts), ("exchange",), best, moved(counts, best[0], best[1]))
        self.assertGreater(there, 20)

    def test_of_several_the_first_removed(self):
        self.told(design([[1], [-1], [2]], [1, 1, 0]), ("exchange",), [0, 2, 5], [0, 1, 1])
        self.told(design([[2], [1], [-1]], [0, 1, 1]), ("exchange",), [1, 0, 5], [1, 0, 1])

    def test_of_several_the_first_added(self):
        self.told(design([[1], [2], [-2]], [3, 0, 0]), ("exchange",), [0, 1, 6], [2, 1, 0])
        self.told(design([[3], [-3], [1]], [0, 0, 3]), ("exchange",), [2, 0, 11], [1, 0, 2])

    def test_removed_counts_for_more_than_added(self):
        rows = [[1, 0], [-1, 0], [0, 1], [0, -1]]
        self.told(design(rows, [0, 3, 0, 1]), ("exchange",), [1, 2, 4], [0, 2, 1, 1])
        self.told(design(rows, [2, 2, 0, 0]), ("exchange",), [0, 2, 3], [1, 2, 1, 0])

    def test_an_equal_determinant_is_not_enough(self):
        self.refused(design([[1], [-1]], [1, 0]), ("exchange",), -33)
        self.refused(design(LINE, [2, 0, 2]), ("exchange",), -33)

    def test_a_design_that_is_not_regular_may_become_so(self):
        self.told(design(units(2), [2, 0]), ("exchange",), [0, 1, 1], [1, 1])
        self.told(design([[0], [1]], [20, 0]), ("exchange",), [0, 1, 1], [19, 1])

        self.told(design(LINE, [0, 20, 0]), ("exchange",), [1, 0, 19], [1, 19, 0])

    def test_none_leads_out_of_determinant_0(self):
        self.refused(design(LINE, [0, 0, 0]), ("exchange",), -33)
        self.refused(design([[1, 2], [-2, -4], [3, 6]], [1, 1, 1]), ("exchange",), -33)
        self.refused(design(units(3), [2, 0, 0]), ("exchange",), -33)
        self.refused(design(units(4), [20, 20, 0, 0]), ("exchange",), -33)

    def test_a_count_of_0_is_not_removed(self):
        self.refused(design([[1], [5]], [0, 4]), ("exchange",), -33)
        self.refused(design([[1], [5]], [0, 0]), ("exchange",), -33)

    def test_a_count_of_20_is_not_added_to(self):
        self.refused(design([[1], [5]], [4, 20]), ("exchange",), -33)
        self.told(design([[1], [5]], [4, 19]), ("exchange",), [0, 1, 503], [3, 20])
        self.told(design([[1], [2], [5]], [4, 0, 20]), ("exchange",), [0, 1, 507], [3, 1, 20])

    def test_one_candidate_and_none(self):
        self.refused(design([[1]], [4]), ("exchange",), -33)
        self.refused([("create", 1)], ("exchange",), -33)


class Improve(Searching):
    MANY = design([[1], [2], [3], [4]], [20, 20, 0, 0])

    def test_example(self):
        self.told(design(LINE, [2, 1, 1]), ("improve", 5), [1, 16], [2, 0, 2])
        self.told(design(LINE, [1, 2, 1]), ("improve", 20), [2, 16], [2, 0, 2])
        self.told(design(LINE, [1, 2, 1]), ("improve", 1), [1, 11], [2, 1, 1])

    def test_by_the_words(self):
        for place, (rows, counts) in enumerate(some_designs()):
            if len(rows) > 6:
                continue
            limit = (1, 2, 5, 20)[place // 4 % 4]
            reached = list(counts)
            steps = 0
            best = best_exchange(rows, reached)
            while best is not None and steps < limit:
                reached = moved(reached, best[0], best[1])
                steps += 1
                best = best_exchange(rows, reached)
            self.told(design(rows, counts), ("improve", limit), [steps, determinant_of(rows, reached)], reached)

    def test_at_most_the_limit(self):
        self.told(self.MANY, ("improve", 1), [1, 115], [19, 20, 0, 1])
        self.told(self.MANY, ("improve", 19), [19, 385], [1, 20, 0, 19])
        self.told(self.MANY, ("improve", 20), [20, 400], [0, 20, 0, 20])
        self.assertEqual(replies(*self.MANY, ("improve", 20), ("improve", 20), ("improve", 20), ("counts",))[-3:],
                         [[20, 500], [0, 500], [4, 0, 0, 20, 20]])

    def test_as_long_as_there_is_one(self):
        self.told(design([[1], [4]], [7, 0]), ("improve", 20), [7, 112], [0, 7])
        self.told(design([[1], [4]], [7, 18]), ("improve", 20), [2, 325], [5, 20])

    def test_none_is_no_error(self):
        self.told(design(LINE, [2, 0, 2]), ("improve", 20), [0, 16], [2, 0, 2])
        self.told(design(units(3), [2, 0, 0]), ("improve", 20), [0, 0], [2, 0, 0])
        self.told([("create", 3)], ("improve", 1), [0, 0], [])

    def test_from_a_design_that_is_not_regular(self):
        self.told(design(units(2), [4, 0]), ("improve", 20), [2, 4], [2, 2])

    def test_limits_outside(self):
        for limit in (0, 21, 100, BIGGEST):
            self.refused(self.MANY, ("improve", limit), -22)
            self.refused([("create", 1)], ("improve", limit), -22)


class Add(Searching):
    def test_example(self):
        self.told(design(LINE, [1, 0, 2]), ("add",), [0, 16], [2, 0, 2])

    def test_by_the_words(self):
        for rows, counts in some_designs():
            values = {place: determinant_of(rows, moved(counts, None, place))
                      for place in range(len(rows)) if counts[place] <= 19}
            if values:
                greatest = max(values.values())
                first = min(place for place, value in values.items() if value == greatest)
                self.told(design(rows, counts), ("add",), [first, greatest], moved(counts, None, first))
            else:
                self.refused(design(rows, counts), ("add",), -33)

    def test_the_first_of_several(self):
        self.told(design(LINE, [1, 0, 1]), ("add",), [0, 8], [2, 0, 1])
        self.told(design([[1], [3], [-3]], [0, 2, 1]), ("add",), [1, 36], [0, 3, 1])

    def test_the_first_of_all_where_the_determinant_stays_0(self):
        self.told(design(units(3), [0, 0, 0]), ("add",), [0, 0], [1, 0, 0])
        self.told(design(units(3), [20, 0, 0]), ("add",), [1, 0], [20, 1, 0])
        self.told(design([[0], [1]], [0, 0]), ("add",), [1, 1], [0, 1])

    def test_a_count_of_20_is_passed_over(self):
        self.told(design([[5], [1]], [20, 0]), ("add",), [1, 501], [20, 1])
        self.told(design([[5], [1]], [19, 0]), ("add",), [0, 500], [20, 0])
        self.told(design([[1], [2], [3]], [19, 20, 20]), ("add",), [0, 280], [20, 20, 20])

    def test_none_below_20(self):
        self.refused(design([[5], [1]], [20, 20]), ("add",), -33)
        self.refused(design([[row] for row in range(10)], [20] * 10), ("add",), -33)

    def test_no_candidates(self):
        self.refused([("create", 2)], ("add",), -33)


class Remove(Searching):
    def test_example(self):
        self.told(design(LINE, [2, 0, 2]), ("remove",), [0, 8], [1, 0, 2])

    def test_by_the_words(self):
        for rows, counts in some_designs():
            values = {place: determinant_of(rows, moved(counts, place, None))
                      for place in range(len(rows)) if counts[place] >= 1}
            if values:
                greatest = max(values.values())
                first = min(place for place, value in values.items() if value == greatest)
                self.told(design(rows, counts), ("remove",), [first, greatest], moved(counts, first, None))
            else:
                self.refused(design(rows, counts), ("remove",), -33)

    def test_the_first_of_several(self):
        self.told(design([[3], [1], [-1]], [2, 1, 1]), ("remove",), [1, 19], [2, 0, 1])

    def test_the_first_used_where_the_determinant_becomes_0(self):
        self.told(design(units(2), [1, 1]), ("remove",), [0, 0], [0, 1])
        self.told(design(units(3), [0, 1, 5]), ("remove",), [1, 0], [0, 0, 5])

    def test_a_count_of_0_is_passed_over(self):
        self.told(design([[1], [5]], [0, 1]), ("remove",), [1, 0], [0, 0])
        self.told(design([[0], [5]], [0, 20]), ("remove",), [1, 475], [0, 19])

    def test_size_0(self):
        self.refused(design(LINE, [0, 0, 0]), ("remove",), -33)
        self.refused([("create", 4)], ("remove",), -33)
        self.refused(design([[1]], [1]) + [("remove",)], ("remove",), -33)


def sizes_to_try(rows, most):
    """Some sizes of which there are at most so many designs."""
    return [size for size in (1, 2, 3, 4, 5, 7, 20) if comb(size + len(rows) - 1, size) <= most]


class Best(Searching):
    def test_example(self):
        self.assertEqual(last(*design(LINE, [2, 0, 2]), ("best", 3)), [8, 2, 0, 1])

    def test_by_the_words(self):
        there = 0
        for rows, counts in some_designs():
            for size in sizes_to_try(rows, 130):
                greatest, best = max((determinant_of(rows, others), others)
                                     for others in lists_with_sum(len(rows), size))
                answer = [greatest] + best if greatest > 0 else [-33]
                there += greatest > 0
                self.assertEqual(last(*design(rows, counts), ("best", size)), answer)
        self.assertGreater(there, 100)

    def test_of_several_the_lexicographically_greatest(self):
        self.assertEqual(last(*design([[1], [2], [-2]], [0, 0, 0]), ("best", 2)), [8, 0, 2, 0])
        self.assertEqual(last(*design(units(3), [0, 0, 0]), ("best", 4)), [2, 2, 1, 1])
        self.assertEqual(last(*design([[0, 1], [0, -1], [1, 0], [-1, 0]], [0] * 4), ("best", 3)), [2, 2, 0, 1, 0])

    def test_a_count_may_be_20(self):
        self.assertEqual(last(*design([[3], [7]], [0, 0]), ("best", 20)), [980, 0, 20])
        self.assertEqual(last(*design([[-7]], [3]), ("best", 20)), [980, 20])

    def test_the_design_itself_does_not_matter(self):
        for counts in ([0, 0, 0], [0, 20, 0], [20, 20, 20]):
            self.assertEqual(last(*design(LINE, counts), ("best", 4)), [16, 2, 0, 2])

    def test_leaves_the_design(self):
        for name in ("best", "best_by_trace"):
            self.unchanged(design(LINE, [1, 2, 3]), (name, 5))


class BestByTrace(Searching):
    def test_example(self):
        self.assertEqual(last(*design(LINE, [2, 0, 2]), ("best_by_trace", 3)), [0, 3, 4, 2, 0, 1])

    def test_by_the_words(self):
        there = 0
        for rows, counts in some_designs():
            for size in sizes_to_try(rows, 40):
                regular = [others for others in lists_with_sum(len(rows), size) if determinant_of(rows, others) > 0]
                answer = [-33]
                if regular:
                    there += 1
                    smallest = min(trace_of(matrix_of(rows, others)) for others in regular)
                    best = max(others for others in regular if trace_of(matrix_of(rows, others)) == smallest)
                    answer = [0] + pair(smallest) + best
                self.assertEqual(last(*design(rows, counts), ("best_by_trace", size)), answer)
        self.assertGreater(there, 60)

    def test_it_is_not_always_the_best_by_determinant(self):
        rows = [[1, 0], [0, 2]]
        self.assertEqual(last(*design(rows, [0, 0]), ("best", 6)), [36, 3, 3])
        self.assertEqual(last(*design(rows, [0, 0]), ("best_by_trace", 6)), [0, 3, 8, 4, 2])

    def test_of_several_the_lexicographically_greatest(self):
        self.assertEqual(last(*design([[1], [2], [-2]], [0, 0, 0]), ("best_by_trace", 2)), [0, 1, 8, 0, 2, 0])
        self.assertEqual(last(*design(units(3), [0, 0, 0]), ("best_by_trace", 4)), [0, 5, 2, 2, 1, 1])

    def test_equal_traces_of_unequal_determinants(self):
        rows = [[-2, -2], [-2, 0], [-1, 2]]
        self.assertEqual(last(*design(rows, [0, 0, 0]), ("best", 3)), [72, 2, 0, 1])
        self.assertEqual(last(*design(rows, [0, 0, 0]), ("best_by_trace", 3)), [0, 1, 4, 1, 1, 1])
        rows = [[-2, -2], [-2, 2], [-1, 3]]
        self.assertEqual(last(*design(rows, [0, 0, 0]), ("best", 4)), [272, 2, 1, 1])
        self.assertEqual(last(*design(rows, [0, 0, 0]), ("best_by_trace", 4)), [0, 1, 8, 2, 2, 0])

    def test_two_columns_apart(self):
        for size in range(2, 21):
            smallest = min(Fraction(1, first) + Fraction(1, size - first) for first in range(1, size))
            answer = [0] + pair(smallest) + [(size + 1) // 2, size // 2]
            self.assertEqual(last(*design(units(2), [0, 0]), ("best_by_trace", size)), answer)


class TakeBest(Searching):
    def test_the_design_becomes_the_best_one(self):
        self.told(design(LINE, [0, 20, 3]), ("take_best", 3), [8], [2, 0, 1])
        self.told(design(LINE, [2, 0, 1]), ("take_best", 3), [8], [2, 0, 1])
        self.told(design([[3], [7]], [0, 0]), ("take_best", 20), [980], [0, 20])

    def test_as_best(self):
        for rows, counts in some_designs():
            for size in sizes_to_try(rows, 60):
                found = replies(*design(rows, counts), ("best", size), ("take_best", size), ("counts",),
                                ("determinant",))[-4:]
                if found[0] == [-33]:
                    self.assertEqual(found[1:3], [[-33], [len(rows)] + counts])
                else:
                    self.assertEqual(found[1:], [found[0][:1], [len(rows)] + found[0][1:], found[0][:1]])

    def test_what_is_taken_can_be_changed(self):
        calls = design(LINE, [0, 0, 0]) + [("take_best", 4), ("add",), ("take_best", 4), ("remove",), ("counts",)]
        self.assertEqual(replies(*calls)[-4:], [[0, 24], [16], [0, 8], [3, 1, 0, 2]])


class SizesOfTheSearches(Searching):
    def test_sizes_outside(self):
        for name in SEARCHES:
            for size in (0, 21, 100, BIGGEST):
                self.refused(design([[1]], [3]), (name, size), -22)
                self.refused([("create", 1)], (name, size), -22)

    def test_sizes_at_the_edges(self):
        for size in (1, 20):
            calls = design([[1]], [3])
            self.assertEqual(last(*calls, ("best", size)), [size, size])
            self.assertEqual(last(*calls, ("best_by_trace", size)), [0, 1, size, size])
            self.told(calls, ("take_best", size), [size], [size])

    def test_too_many_lists(self):
        # No number of candidates and size has exactly 500 lists: the nearest are 495 and 560.
        numbers = {comb(size + places - 1, size) for places in range(1, 11) for size in range(1, 21)}
        self.assertEqual(max(number for number in numbers if number <= 500), 495)
        self.assertEqual(min(number for number in numbers if number >= 500), 560)
        for places in range(1, 11):
            rows = [[entry] for entry in range(1, places + 1)]
            for size in range(1, 21):
                calls = design(rows, [1] * places)
                if comb(size + places - 1, size) > 500:
                    for name in SEARCHES:
                        self.refused(calls, (name, size), -28)
                else:
                    expected = [0] * (places - 1) + [size]
                    greatest = size * places ** 2
                    self.assertEqual(last(*calls, ("best", size)), [greatest] + expected)
                    self.assertEqual(last(*calls, ("best_by_trace", size)), [0, 1, greatest] + expected)
                    self.told(calls, ("take_best", size), [greatest], expected)

    def test_495_and_560_lists(self):
        self.assertEqual((comb(8 + 4, 8), comb(4 + 8, 4), comb(13 + 3, 13)), (495, 495, 560))
        for places, size, answer in ((5, 8, [200, 0, 0, 0, 0, 8]), (9, 4, [324] + [0] * 8 + [4]), (4, 13, [-28])):
            rows = [[entry] for entry in range(1, places + 1)]
            self.assertEqual(last(*design(rows, [0] * places), ("best", size)), answer)

    def test_no_regular_design(self):
        for name in SEARCHES:
            self.refused(design(units(3), [1, 1, 1]), (name, 2), -33)
            self.refused(design([[0]], [5]), (name, 20), -33)
            self.refused(design([[1, 2], [2, 4], [-1, -2]], [1, 1, 1]), (name, 4), -33)
            self.assertNotEqual(last(*design(units(3), [1, 1, 1]), (name, 3)), [-33])

    def test_no_candidates(self):
        for name in SEARCHES:
            for size in (1, 2, 20):
                self.refused([("create", 1)], (name, size), -33)
                self.refused([("create", 4)], (name, size), -33)

    def test_order_of_the_errors(self):
        ten = design([[0, entry] for entry in range(10)], [2] * 10)
        for name in SEARCHES:
            self.refused(ten, (name, 0), -22)
            self.refused(ten, (name, 21), -22)
            self.refused(ten, (name, 20), -28)
            self.refused(ten, (name, 4), -28)
            self.refused(ten, (name, 3), -33)


if __name__ == "__main__":
    unittest.main()
