"""Helper of the tests: calls written by name, and answers told call by call."""

from bestdesigns.designs import answers

NAMES = (
    "create", "add_candidate", "remove_candidate", "get_candidate", "set_counts", "counts", "information",
    "determinant", "trace", "variance", "candidate_variances", "is_optimal", "bound", "exchange", "improve",
    "add", "remove", "best", "best_by_trace", "take_best", "weights", "compare", "is_at_least_as_good", "summary",
)


def flat(calls):
    """The calls, each a tuple of its name and perhaps its argument, as one list of whole numbers."""
    numbers = []
    for name, *arguments in calls:
        numbers.append(NAMES.index(name))
        for argument in arguments:
            if isinstance(argument, list):
                numbers.append(len(argument))
                numbers.extend(argument)
            else:
                numbers.append(argument)
    return numbers


def split(told):
    """The answers, each a list of its own."""
    found = []
    start = 0
    while start < len(told):
        end = start + 1 + told[start]
        found.append(told[start + 1:end])
        start = end
    return found


def replies(*calls):
    """The answer to each call."""
    found = split(answers(flat(calls)))
    if len(found) != len(calls):
        raise AssertionError(f"{len(calls)} calls, {len(found)} answers")
    return found


def last(*calls):
    """The answer to the last call."""
    return replies(*calls)[-1]


def design(candidates, counts):
    """The calls that build this design."""
    calls = [("create", len(candidates[0]))]
    calls.extend(("add_candidate", list(row)) for row in candidates)
    calls.append(("set_counts", list(counts)))
    return calls
