"""answers(calls): how calls and answers stand in their lists."""

import contextlib
import inspect
import io
import unittest

from bestdesigns import designs
from bestdesigns.designs import answers
from helper import BIGGEST, LINE, NAMES, design, flat, last, replies

WITH_NUMBER = ("remove_candidate", "get_candidate", "bound", "improve", "best", "best_by_trace", "take_best", "weights")
WITH_LIST = ("add_candidate", "set_counts", "variance", "compare", "is_at_least_as_good")
SESSION = (
    (("create", 2), [0]),
    (("add_candidate", [1, -1]), [0]),
    (("add_candidate", [1, 0]), [1]),
    (("add_candidate", [1, 1]), [2]),
    (("set_counts", [1, 2, 1]), [4]),
    (("information",), [2, 4, 0, 0, 2]),
    (("determinant",), [8]),
    (("trace",), [0, 3, 4]),
    (("candidate_variances",), [3, 3, 4, 1, 4, 3, 4]),
    (("is_optimal",), [0, 0, 3, 1]),
    (("bound", 4), [18]),
    (("exchange",), [1, 0, 11]),
    (("improve", 5), [1, 16]),
    (("counts",), [3, 2, 0, 2]),
    (("is_optimal",), [1, 0, 2, 1]),
    (("bound", 5), [25]),
    (("best", 3), [8, 2, 0, 1]),
    (("best_by_trace", 3), [0, 3, 4, 2, 0, 1]),
    (("weights", 1), [3, 5, 12, 1, 6, 5, 12]),
    (("compare", [1, 2, 1]), [1, 1]),
    (("is_at_least_as_good", [1, 2, 1]), [1]),
    (("remove",), [0, 8]),
    (("add",), [0, 16]),
    (("exchange",), [-33]),
    (("add_candidate", [1, 1]), [-17]),
)
EXAMPLE = [call for call, answer in SESSION]


def some_call(name):
    """A call with arguments that are in range nowhere."""
    if name in WITH_NUMBER:
        return (name, BIGGEST)
    if name in WITH_LIST:
        return (name, [2147483647] * 40)
    return (name,)


class Numbers(unittest.TestCase):
    def test_the_example_number_by_number(self):
        calls = [0, 2, 1, 2, 1, -1, 1, 2, 1, 0, 1, 2, 1, 1, 4, 3, 1, 2, 1, 6, 7, 8, 10, 11, 1, 2, 1, 1]
        self.assertEqual(answers(calls), [
            1, 0, 1, 0, 1, 1, 1, 2, 1, 4, 5, 2, 4, 0, 0, 2, 1, 8, 3, 0, 3, 4, 7, 3, 3, 4, 1, 4, 3, 4,
            4, 0, 0, 3, 1, 1, -17])

    def test_the_example_call_by_call(self):
        for call, answer, found in zip(EXAMPLE, [answer for call, answer in SESSION], replies(*EXAMPLE)):
            self.assertEqual((call, found), (call, answer))

    def test_the_second_half_of_the_example_number_by_number(self):
        start = flat(EXAMPLE[:5])
        told = answers(start + [12, 4, 13, 14, 5, 17, 3, 18, 3, 20, 1, 21, 3, 1, 2, 1, 22, 3, 1, 2, 1, 16, 15, 13, 23,
                                19, 3, 5])
        self.assertEqual(told[len(answers(start)):], [
            1, 18, 3, 1, 0, 11, 2, 1, 16, 4, 8, 2, 0, 1, 6, 0, 3, 4, 2, 0, 1, 7, 3, 5, 12, 1, 6, 5, 12, 2, 1, 1, 1, 1,
            2, 0, 8, 2, 0, 16, 1, -33, 3, 2, 3, 4, 1, 8, 4, 3, 2, 0, 1])

    def test_an_answer_below_0_that_is_no_error_is_told_whole(self):
        self.assertEqual(answers(flat(design(LINE, [1, 2, 1])) + [21, 3, 2, 0, 2])[-3:], [2, -1, -1])

    def test_one_call(self):
        self.assertEqual(answers([0, 4]), [1, 0])
        self.assertEqual(answers([0, 0]), [1, -22])
        self.assertEqual(answers([5]), [1, -11])

    def test_each_number_is_its_operation(self):
        self.assertEqual(answers([0, 1, 1, 1, 5, 3, 0, 4, 1, 2, 5, 6, 7, 8, 9, 1, 5, 10, 11, 2, 0]), [
            1, 0, 1, 0, 2, 1, 5, 1, 2, 2, 1, 2, 2, 1, 50, 1, 50, 3, 0, 1, 50, 3, 0, 1, 2, 3, 1, 1, 2,
            4, 1, 0, 1, 1, 1, 0])

    def test_empty_and_long_lists_do_not_shift_the_next_call(self):
        for row in ([], [7] * 40, [1] * 39):
            found = replies(("create", 2), ("add_candidate", row), ("counts",), ("variance", row), ("counts",),
                            ("set_counts", row), ("counts",), ("is_at_least_as_good", row), ("counts",),
                            ("compare", row), ("counts",))
            self.assertEqual(found, [[0], [-22], [0], [-22], [0], [-22] if row else [0], [0], [-22] if row else [1],
                                     [0], [-22] if row else [-33], [0]])

    def test_great_numbers_do_not_shift_the_next_call(self):
        found = replies(("create", BIGGEST), ("create", 1), ("get_candidate", BIGGEST), ("remove_candidate", BIGGEST),
                        ("set_counts", [BIGGEST] * 40), ("add_candidate", [-2147483648] * 40),
                        ("add_candidate", [2147483647]), ("add_candidate", [-10]), ("set_counts", [BIGGEST]),
                        ("variance", [-2147483648]), ("counts",))
        self.assertEqual(found, [[-22], [0], [-2], [-2], [-22], [-22], [-22], [0], [-22], [-22], [1, 0]])
        numbered = [(name, BIGGEST) for name in ("bound", "improve", "best", "best_by_trace", "take_best", "weights")]
        listed = [("compare", [BIGGEST] * 40), ("is_at_least_as_good", [BIGGEST] * 40)]
        found = replies(*design(LINE, [1, 2, 1]), *numbered, *listed, ("counts",))
        self.assertEqual(found[5:], [[-22]] * 8 + [[3, 1, 2, 1]])

    def test_two_hundred_calls(self):
        rows = [[1, 0, 0, entry] for entry in range(4)] + [[0, 1, 0, 0], [0, 0, 1, 0], [0, 0, 0, 1]]
        start = design(rows, [20] * 7)
        found = replies(*start, *[("candidate_variances",)] * (200 - len(start)))
        self.assertEqual(len(found), 200)
        self.assertEqual(found[len(start):], [found[-1]] * (200 - len(start)))

    def test_answers_are_plain_whole_numbers(self):
        told = answers(flat(EXAMPLE + design([[1]], [7]) + [("is_optimal",)]))
        self.assertIs(type(told), list)
        self.assertEqual({type(number) for number in told}, {int})


class NotCreated(unittest.TestCase):
    def test_every_other_call(self):
        for name in NAMES[1:]:
            self.assertEqual(replies(some_call(name)), [[-11]])

    def test_good_arguments_do_not_help(self):
        calls = [("add_candidate", [1]), ("set_counts", []), ("variance", [1]), ("bound", 1), ("improve", 1),
                 ("best", 1), ("best_by_trace", 1), ("take_best", 1), ("weights", 0), ("compare", []),
                 ("is_at_least_as_good", [])]
        self.assertEqual(replies(*calls, ("create", 1), ("counts",)), [[-11]] * 11 + [[0], [0]])

    def test_stays_so_until_create_succeeds(self):
        calls = [some_call(name) for name in NAMES[1:]]
        found = replies(("create", 0), *calls, ("create", 5), *calls, ("create", 2), ("information",))
        self.assertEqual(found, [[-22]] + [[-11]] * 23 + [[-22]] + [[-11]] * 23 + [[0], [2, 0, 0, 0, 0]])

    def test_a_refused_create_later_leaves_it_usable(self):
        self.assertEqual(replies(("create", 2), ("create", 0), ("information",)), [[0], [-22], [2, 0, 0, 0, 0]])


class NothingIsKept(unittest.TestCase):
    def test_the_list_handed_in_stands(self):
        for calls in (EXAMPLE, [some_call(name) for name in NAMES[1:]],
                      [("create", 1), ("add_candidate", [3]), ("remove_candidate", 0), ("create", 9)]):
            handed = flat(calls)
            before = list(handed)
            answers(handed)
            self.assertEqual(handed, before)

    def test_the_list_is_not_changed_for_a_while_either(self):
        class Watched(list):
            def refuse(self, *arguments):
                raise AssertionError("the list handed in is changed")

        for name in ("append", "clear", "extend", "insert", "pop", "remove", "reverse", "sort", "__setitem__",
                     "__delitem__", "__iadd__", "__imul__"):
            setattr(Watched, name, Watched.refuse)
        self.assertEqual(answers(Watched(flat(EXAMPLE))), answers(flat(EXAMPLE)))

    def test_each_time_is_the_first(self):
        first = answers(flat(EXAMPLE))
        self.assertEqual(answers([5, 7, 11]), [1, -11, 1, -11, 1, -11])
        self.assertEqual(answers(flat(EXAMPLE)), first)
        self.assertEqual(replies(("create", 2), ("counts",)), [[0], [0]])

    def test_what_is_given_back_is_new(self):
        first = answers(flat(EXAMPLE))
        copy = list(first)
        first.clear()
        self.assertEqual(answers(flat(EXAMPLE)), copy)

    def test_nothing_is_printed(self):
        printed = io.StringIO()
        with contextlib.redirect_stdout(printed), contextlib.redirect_stderr(printed):
            answers(flat(EXAMPLE))
        self.assertEqual(printed.getvalue(), "")

    def test_the_name_and_the_argument(self):
        self.assertEqual(list(inspect.signature(designs.answers).parameters), ["calls"])
        self.assertEqual(designs.answers.__module__, "bestdesigns.designs")


if __name__ == "__main__":
    unittest.main()
