"""Helper of the tests: calls written by name, answers told call by call, and figures worked out by the words."""

import unittest
from fractions import Fraction

from bestdesigns.designs import answers

NAMES = (
    "create", "add_candidate", "remove_candidate", "get_candidate", "set_counts", "counts", "information",
    "determinant", "trace", "variance", "candidate_variances", "is_optimal", "bound", "exchange", "improve",
    "add", "remove", "best", "best_by_trace", "take_best", "weights", "compare", "is_at_least_as_good", "summary",
)


def flat(calls):
    """The calls, each a tuple of its name and perhaps its argument, as one list of whole numbers."""
    numbers = []
    for name, *arguments in calls:
        numbers.append(NAMES.index(name))
        for argument in arguments:
            if isinstance(argument, list):
                numbers.append(len(argument))
                numbers.extend(argument)
            else:
                numbers.append(argument)
    return numbers


def split(told):
    """The answers, each a list of its own."""
    found = []
    start = 0
    while start < len(told):
        end = start + 1 + told[start]
        found.append(told[start + 1:end])
        start = end
    return found


def replies(*calls):
    """The answer to each call."""
    found = split(answers(flat(calls)))
    if len(found) != len(calls):
        raise AssertionError(f"{len(calls)} calls, {len(found)} answers")
    return found


def last(*calls):
    """The answer to the last call."""
    return replies(*calls)[-1]


def design(candidates, counts):
    """The calls that build this design."""
    calls = [("create", len(candidates[0]))]
    calls.extend(("add_candidate", list(row)) for row in candidates)
    calls.append(("set_counts", list(counts)))
    return calls


BIGGEST = 4294967295
LINE = [[1, -1], [1, 0], [1, 1]]
NOT_REGULAR = (
    design(LINE, [0, 0, 0]),
    design(LINE, [0, 20, 0]),
    design([[1, 2], [-2, -4], [3, 6]], [1, 1, 1]),
    design([[1, 1, 0, 0], [0, 0, 1, 1], [1, 1, 1, 1], [1, 1, -1, -1]], [2, 2, 2, 2]),
    [("create", 1)],
    [("create", 4)],
    design([[0]], [20]),
)


def numbers(start, greatest, length):
    """A list of numbers from 0 to the greatest; each start gives the same list every time."""
    found = []
    state = start * 7919 + 12345
    for _ in range(length):
        state = (state * 1103515245 + 12345) % 2147483648
        found.append((state >> 12) % (greatest + 1))
    return found


def some_designs():
    """Designs of 1 to 4 columns with few and many candidates, small and great entries and counts."""
    for start in range(80):
        columns = start % 4 + 1
        reach = (1, 3, 10)[start % 3]
        drawn = numbers(start, 2 * reach, 40)
        rows = []
        for place in range(0, 40 - columns, columns):
            row = [entry - reach for entry in drawn[place:place + columns]]
            if row not in rows and len(rows) < start % 10 + 1:
                rows.append(row)
        yield rows, numbers(start + 500, (2, 20)[start % 2], len(rows))


def matrix_of(rows, counts):
    """The information matrix, by the words of the document."""
    places = range(len(rows[0]))
    return [[sum(count * row[i] * row[j] for row, count in zip(rows, counts)) for j in places] for i in places]


def expanded(matrix):
    """The determinant by expansion along the first row."""
    if not matrix:
        return 1
    return sum((-1) ** place * entry * expanded([row[:place] + row[place + 1:] for row in matrix[1:]])
               for place, entry in enumerate(matrix[0]))


def solved(matrix, vector):
    """The solution z of M z = c, by elimination over fractions."""
    rows = [[Fraction(entry) for entry in row] + [Fraction(right)] for row, right in zip(matrix, vector)]
    for step in range(len(rows)):
        chosen = next(place for place in range(step, len(rows)) if rows[place][step] != 0)
        rows[step], rows[chosen] = rows[chosen], rows[step]
        rows[step] = [entry / rows[step][step] for entry in rows[step]]
        for place in range(len(rows)):
            if place != step:
                factor = rows[place][step]
                rows[place] = [entry - factor * above for entry, above in zip(rows[place], rows[step])]
    return [row[-1] for row in rows]


def variance_of(matrix, vector):
    return sum(z * c for z, c in zip(solved(matrix, vector), vector))


def units(columns):
    return [[int(place == other) for other in range(columns)] for place in range(columns)]


def pair(fraction):
    return [fraction.numerator, fraction.denominator]


def trace_of(matrix):
    return sum(variance_of(matrix, unit) for unit in units(len(matrix)))


def lists_with_sum(places, size):
    """Every list of counts with this sum, the lexicographically smallest first."""
    if places == 0:
        return [[]] if size == 0 else []
    return [[count] + rest for count in range(size + 1) for rest in lists_with_sum(places - 1, size - count)]


class StateKept(unittest.TestCase):
    """Base of the tests of calls that leave the state as it was."""

    ASKED = [("summary",), ("counts",), ("information",)] + [("get_candidate", index) for index in range(10)]

    def unchanged(self, calls, call):
        """All that can be asked of the state is answered as if the call had not been there."""
        self.assertEqual(replies(*calls, call, *self.ASKED)[len(calls) + 1:],
                         replies(*calls, *self.ASKED)[len(calls):])

    def refused(self, calls, call, code):
        """The call is refused, and leaves the state as it was."""
        self.assertEqual(last(*calls, call), [code])
        self.unchanged(calls, call)
