"""The operations: each takes the design and its argument, and gives back the list of integers it answers."""

from bestdesigns.exact import determinant_of, lowest_terms, principal_minor, scaled_trace_of, sign_of
from bestdesigns.search import best_change, best_design, best_design_by_trace, best_exchange, changed, exchanged
from bestdesigns.state import BOUND_SIZE_LIMIT, CANDIDATE_LIMIT, COLUMN_LIMIT, COUNT_LIMIT, EXCHANGE_LIMIT, STEP_LIMIT
from bestdesigns.state import AlreadyThere, NothingFound, TooMany
from bestdesigns.state import check_candidate, check_counts, check_number, check_vector
from bestdesigns.state import information_of, information_with, inverse_of, inverse_with, regular_determinant


def create(design, column_count):
    """Start with this number of columns, without candidates."""
    check_number(column_count, 1, COLUMN_LIMIT)
    design.column_count = column_count
    design.candidates = []
    design.counts = []
    return [0]


def add_candidate(design, row):
    """Add a candidate that is not used yet; answer its number."""
    check_vector(design, row)
    if row in design.candidates:
        raise AlreadyThere()
    if len(design.candidates) >= CANDIDATE_LIMIT:
        raise TooMany()
    design.candidates.append(list(row))
    design.counts.append(0)
    return [len(design.candidates) - 1]


def remove_candidate(design, index):
    """Remove a candidate and its count; answer how many remain."""
    check_candidate(design, index)
    design.candidates.pop(index)
    design.counts.pop(index)
    return [len(design.candidates)]


def get_candidate(design, index):
    """Answer the number of columns and the entries of a candidate."""
    check_candidate(design, index)
    return [design.column_count] + design.candidates[index]


def set_counts(design, new_counts):
    """Set the counts; answer the size of the design."""
    check_counts(design, new_counts)
    design.counts = list(new_counts)
    return [sum(new_counts)]


def counts(design):
    """Answer the number of candidates and their counts."""
    return [len(design.candidates)] + design.counts


def information(design):
    """Answer the number of columns and the information matrix, row by row."""
    answer = [design.column_count]
    for row in information_of(design):
        answer.extend(row)
    return answer


def determinant(design):
    """Answer the determinant of the information matrix."""
    return [determinant_of(information_of(design))]


def trace_with(design, some_counts):
    """Answer 0 and the trace with these counts."""
    matrix = information_with(design, some_counts)
    scale = regular_determinant(matrix)
    return [0] + lowest_terms(scaled_trace_of(matrix), scale)


def trace(design):
    """Answer 0 and the trace."""
    return trace_with(design, design.counts)


def variance(design, vector):
    """Answer 0 and the variance of a vector."""
    check_vector(design, vector)
    inverse = inverse_of(design)
    return [0] + lowest_terms(inverse.scaled_variance(vector), inverse.determinant)


def candidate_variances(design):
    """Answer the number of candidates and the variance of each."""
    inverse = inverse_of(design)
    answer = [len(design.candidates)]
    for row in design.candidates:
        answer.extend(lowest_terms(inverse.scaled_variance(row), inverse.determinant))
    return answer


def worst_candidate(design, inverse):
    """The number of the first candidate whose variance is greatest."""
    scaled = [inverse.scaled_variance(row) for row in design.candidates]
    return scaled.index(max(scaled))


def is_optimal(design):
    """Answer whether the design passes the test, its worst candidate, and that one's variance times the size."""
    inverse = inverse_of(design)
    worst = worst_candidate(design, inverse)
    product = sum(design.counts) * inverse.scaled_variance(design.candidates[worst])
    passes = 1 if product <= design.column_count * inverse.determinant else 0
    return [passes, worst] + lowest_terms(product, inverse.determinant)


def bound(design, size):
    """Answer the bound for a size."""
    check_number(size, 1, BOUND_SIZE_LIMIT)
    inverse = inverse_of(design)
    greatest = inverse.scaled_variance(design.candidates[worst_candidate(design, inverse)])
    numerator = inverse.determinant
    denominator = 1
    for column in range(design.column_count):
        numerator *= size * greatest
        denominator *= design.column_count * inverse.determinant
    return [numerator // denominator]


def exchange(design):
    """Carry out the best exchange; answer both candidates and the new determinant."""
    best = best_exchange(design)
    if best is None:
        raise NothingFound()
    design.counts = exchanged(design.counts, best[0], best[1])
    return list(best)


def improve(design, limit):
    """Carry out the best exchange as long as there is one; answer how often, and the determinant."""
    check_number(limit, 1, EXCHANGE_LIMIT)
    done = 0
    best = best_exchange(design)
    while best is not None:
        design.counts = exchanged(design.counts, best[0], best[1])
        done += 1
        best = best_exchange(design) if done < limit else None
    return [done] + determinant(design)


def change_best(design, indexes, difference):
    """Change the count of the candidate that is best for it; answer it and the new determinant."""
    best = best_change(design, indexes, difference)
    design.counts = changed(design.counts, best[0], difference)
    return list(best)


def add_run(design):
    """Add the run that makes the determinant greatest."""
    return change_best(design, [index for index, count in enumerate(design.counts) if count < COUNT_LIMIT], 1)


def remove_run(design):
    """Remove the run without which the determinant remains greatest."""
    return change_best(design, [index for index, count in enumerate(design.counts) if count > 0], -1)


def best_of_size(design, size):
    """Answer the determinant and the counts of the best design of a size."""
    best_counts = best_design(design, size)
    return [regular_determinant(information_with(design, best_counts))] + best_counts


def best_by_trace(design, size):
    """Answer 0, the trace and the counts of the best design by trace of a size."""
    best_counts = best_design_by_trace(design, size)
    return trace_with(design, best_counts) + best_counts


def take_best(design, size):
    """Let the design become the best one of a size; answer its determinant."""
    design.counts = best_design(design, size)
    return determinant(design)


def weights(design, steps):
    """Answer the number of candidates and their weights after this number of multiplicative steps."""
    check_number(steps, 0, STEP_LIMIT)
    # A weight is its share over the sum of all shares: whole numbers then serve for all but the answer.
    shares = [1 for row in design.candidates]
    regular_determinant(information_with(design, shares))
    for step in range(steps):
        inverse = inverse_with(design, shares)
        shares = [share * inverse.scaled_variance(row) for share, row in zip(shares, design.candidates)]
    total = sum(shares)
    answer = [len(shares)]
    for share in shares:
        answer.extend(lowest_terms(share, total))
    return answer


def compare(design, other_counts):
    """Answer the signs that tell whether the design's determinant is greater, and whether its trace is smaller."""
    check_counts(design, other_counts)
    own = information_of(design)
    other = information_with(design, other_counts)
    own_scale = regular_determinant(own)
    other_scale = regular_determinant(other)
    smaller = scaled_trace_of(other) * own_scale - scaled_trace_of(own) * other_scale
    return [sign_of(own_scale - other_scale), sign_of(smaller)]


def is_at_least_as_good(design, other_counts):
    """Answer 1 if no principal minor of the difference of both information matrices is negative, else 0."""
    check_counts(design, other_counts)
    difference = information_with(design, [own - other for own, other in zip(design.counts, other_counts)])
    # Each bit of the number tells whether its place belongs to the set of indices.
    for chosen in range(1, 1 << design.column_count):
        places = [place for place in range(design.column_count) if (chosen >> place) & 1 == 1]
        if principal_minor(difference, places) < 0:
            return [0]
    return [1]


def summary(design):
    """Answer the numbers of columns and candidates, and the size of the design."""
    return [design.column_count, len(design.candidates), sum(design.counts)]


OPERATIONS = {
    0: create,
    1: add_candidate,
    2: remove_candidate,
    3: get_candidate,
    4: set_counts,
    5: counts,
    6: information,
    7: determinant,
    8: trace,
    9: variance,
    10: candidate_variances,
    11: is_optimal,
    12: bound,
    13: exchange,
    14: improve,
    15: add_run,
    16: remove_run,
    17: best_of_size,
    18: best_by_trace,
    19: take_best,
    20: weights,
    21: compare,
    22: is_at_least_as_good,
    23: summary,
}
