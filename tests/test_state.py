"""create, add_candidate, remove_candidate, get_candidate, set_counts, counts."""

import unittest

from helper import BIGGEST, last, replies

LOWEST = -2147483648
HIGHEST = 2147483647
LINE = [("create", 2), ("add_candidate", [1, -1]), ("add_candidate", [1, 0]), ("add_candidate", [1, 1])]
TEN = [("create", 1)] + [("add_candidate", [entry]) for entry in range(10)]


class Create(unittest.TestCase):
    def test_column_counts_in_range(self):
        for column_count in (1, 2, 3, 4):
            self.assertEqual(last(("create", column_count)), [0])

    def test_column_counts_outside(self):
        for column_count in (0, 5, 40, BIGGEST):
            self.assertEqual(last(("create", column_count)), [-22])

    def test_starts_without_candidates(self):
        self.assertEqual(replies(("create", 3), ("counts",)), [[0], [0]])

    def test_a_second_time_starts_anew(self):
        found = replies(*LINE, ("set_counts", [1, 2, 3]), ("create", 3), ("counts",), ("information",),
                        ("get_candidate", 0), ("add_candidate", [1, -1, 0]))
        self.assertEqual(found[5:], [[0], [0], [3] + [0] * 9, [-2], [0]])

    def test_a_second_time_with_the_same_columns_forgets_the_candidates(self):
        found = replies(*LINE, ("create", 2), ("counts",), ("add_candidate", [1, 1]))
        self.assertEqual(found[4:], [[0], [0], [0]])

    def test_refused_a_second_time_leaves_the_state(self):
        for column_count in (0, 5, BIGGEST):
            found = replies(*LINE, ("set_counts", [1, 2, 3]), ("create", column_count), ("counts",),
                            ("get_candidate", 0))
            self.assertEqual(found[5:], [[-22], [3, 1, 2, 3], [2, 1, -1]])

    def test_refused_at_first_leaves_it_unusable(self):
        self.assertEqual(replies(("create", 5), ("counts",), ("create", 1), ("counts",)), [[-22], [-11], [0], [0]])


class AddCandidate(unittest.TestCase):
    def test_numbers_from_0(self):
        self.assertEqual(replies(*LINE)[1:], [[0], [1], [2]])

    def test_count_is_0(self):
        self.assertEqual(last(*LINE, ("set_counts", [4, 5, 6]), ("add_candidate", [2, 2]), ("counts",)),
                         [4, 4, 5, 6, 0])

    def test_entries_at_the_edges(self):
        self.assertEqual(replies(("create", 4), ("add_candidate", [-10, 10, -10, 10]), ("get_candidate", 0))[1:],
                         [[0], [4, -10, 10, -10, 10]])
        self.assertEqual(last(("create", 1), ("add_candidate", [-10])), [0])

    def test_entries_outside(self):
        for entry in (-11, 11, LOWEST, HIGHEST):
            for row in ([entry, 0], [0, entry]):
                self.assertEqual(last(("create", 2), ("add_candidate", row)), [-22])

    def test_wrong_lengths(self):
        for length in (0, 1, 3, 4, 5, 40):
            self.assertEqual(last(("create", 2), ("add_candidate", [1] * length)), [-22])
        self.assertEqual(last(("create", 4), ("add_candidate", [1] * 3)), [-22])
        self.assertEqual(last(("create", 1), ("add_candidate", [])), [-22])

    def test_equal_candidate(self):
        self.assertEqual(last(*LINE, ("add_candidate", [1, 0])), [-17])
        self.assertEqual(last(*LINE, ("add_candidate", [0, 1])), [3])
        self.assertEqual(last(("create", 2), ("add_candidate", [0, 0]), ("add_candidate", [0, 0])), [-17])

    def test_ten_are_enough(self):
        self.assertEqual(replies(*TEN)[1:], [[number] for number in range(10)])
        self.assertEqual(last(*TEN, ("add_candidate", [10])), [-28])

    def test_order_of_the_errors(self):
        self.assertEqual(last(*TEN, ("add_candidate", [11])), [-22])
        self.assertEqual(last(*TEN, ("add_candidate", [1, 1])), [-22])
        self.assertEqual(last(*TEN, ("add_candidate", [3])), [-17])

    def test_refused_leaves_the_state(self):
        for row, code in (([11], -22), ([0, 0], -22), ([9], -17), ([10], -28)):
            found = replies(*TEN, ("set_counts", list(range(10))), ("add_candidate", row), ("counts",))
            self.assertEqual(found[12:], [[code], [10] + list(range(10))])


class RemoveCandidate(unittest.TestCase):
    def test_later_numbers_decrease(self):
        found = replies(*LINE, ("set_counts", [4, 5, 6]), ("remove_candidate", 1), ("counts",),
                        ("get_candidate", 0), ("get_candidate", 1), ("get_candidate", 2))
        self.assertEqual(found[5:], [[2], [2, 4, 6], [2, 1, -1], [2, 1, 1], [-2]])

    def test_first_and_last(self):
        self.assertEqual(last(*LINE, ("set_counts", [4, 5, 6]), ("remove_candidate", 0), ("counts",)), [2, 5, 6])
        self.assertEqual(last(*LINE, ("set_counts", [4, 5, 6]), ("remove_candidate", 2), ("counts",)), [2, 4, 5])

    def test_down_to_none(self):
        found = replies(*LINE, ("remove_candidate", 0), ("remove_candidate", 0), ("remove_candidate", 0),
                        ("counts",), ("remove_candidate", 0))
        self.assertEqual(found[4:], [[2], [1], [0], [0], [-2]])

    def test_no_such_candidate(self):
        for index in (3, 4, 10, BIGGEST):
            found = replies(*LINE, ("set_counts", [4, 5, 6]), ("remove_candidate", index), ("counts",))
            self.assertEqual(found[5:], [[-2], [3, 4, 5, 6]])
        self.assertEqual(last(("create", 1), ("remove_candidate", 0)), [-2])

    def test_makes_room_and_its_row_may_come_again(self):
        found = replies(*TEN, ("remove_candidate", 3), ("add_candidate", [3]), ("get_candidate", 9),
                        ("add_candidate", [10]))
        self.assertEqual(found[11:], [[9], [9], [1, 3], [-28]])


class GetCandidate(unittest.TestCase):
    def test_entries(self):
        self.assertEqual(last(*LINE, ("get_candidate", 0)), [2, 1, -1])
        self.assertEqual(last(*TEN, ("get_candidate", 9)), [1, 9])

    def test_no_such_candidate(self):
        for index in (3, 4, 9, BIGGEST):
            self.assertEqual(last(*LINE, ("get_candidate", index)), [-2])
        self.assertEqual(last(("create", 4), ("get_candidate", 0)), [-2])
        self.assertEqual(last(*TEN, ("get_candidate", 10)), [-2])


class Counts(unittest.TestCase):
    def test_size_and_counts(self):
        found = replies(*LINE, ("counts",), ("set_counts", [1, 2, 1]), ("counts",), ("set_counts", [0, 0, 7]),
                        ("counts",))
        self.assertEqual(found[4:], [[3, 0, 0, 0], [4], [3, 1, 2, 1], [7], [3, 0, 0, 7]])

    def test_counts_at_the_edges(self):
        self.assertEqual(last(*LINE, ("set_counts", [0, 0, 0])), [0])
        self.assertEqual(last(*LINE, ("set_counts", [20, 20, 20])), [60])
        self.assertEqual(replies(*TEN, ("set_counts", [20] * 10), ("counts",))[11:], [[200], [10] + [20] * 10])

    def test_no_candidates(self):
        self.assertEqual(replies(("create", 2), ("set_counts", []), ("counts",))[1:], [[0], [0]])
        self.assertEqual(last(("create", 2), ("set_counts", [0])), [-22])

    def test_counts_outside(self):
        for count in (21, 40, BIGGEST):
            for place in range(3):
                wrong = [1, 1, 1]
                wrong[place] = count
                self.assertEqual(last(*LINE, ("set_counts", wrong)), [-22])

    def test_wrong_lengths(self):
        for length in (0, 1, 2, 4, 10, 40):
            self.assertEqual(last(*LINE, ("set_counts", [1] * length)), [-22])

    def test_refused_leaves_the_state(self):
        for wrong in ([9, 9, 21], [9, 9], [9, 9, 9, 9], []):
            self.assertEqual(last(*LINE, ("set_counts", [1, 2, 3]), ("set_counts", wrong), ("counts",)),
                             [3, 1, 2, 3])


if __name__ == "__main__":
    unittest.main()
