"""The operations: each takes the design and its argument, and gives back the list of integers it answers."""

from bestdesigns.exact import determinant_of, lowest_terms
from bestdesigns.state import CANDIDATE_LIMIT, COLUMN_LIMIT, AlreadyThere, OutOfRange, TooMany
from bestdesigns.state import check_candidate, check_counts, check_vector, information_of, inverse_of


def create(design, column_count):
    """Start with this number of columns, without candidates."""
    if not 1 <= column_count <= COLUMN_LIMIT:
        raise OutOfRange()
    design.column_count = column_count
    design.candidates = []
    design.counts = []
    return [0]


def add_candidate(design, row):
    """Add a candidate that is not used yet; answer its number."""
    check_vector(design, row)
    if row in design.candidates:
        raise AlreadyThere()
    if len(design.candidates) >= CANDIDATE_LIMIT:
        raise TooMany()
    design.candidates.append(list(row))
    design.counts.append(0)
    return [len(design.candidates) - 1]


def remove_candidate(design, index):
    """Remove a candidate and its count; answer how many remain."""
    check_candidate(design, index)
    design.candidates.pop(index)
    design.counts.pop(index)
    return [len(design.candidates)]


def get_candidate(design, index):
    """Answer the number of columns and the entries of a candidate."""
    check_candidate(design, index)
    return [design.column_count] + design.candidates[index]


def set_counts(design, new_counts):
    """Set the counts; answer the size of the design."""
    check_counts(design, new_counts)
    design.counts = list(new_counts)
    return [sum(new_counts)]


def counts(design):
    """Answer the number of candidates and their counts."""
    return [len(design.candidates)] + design.counts


def information(design):
    """Answer the number of columns and the information matrix, row by row."""
    answer = [design.column_count]
    for row in information_of(design):
        answer.extend(row)
    return answer


def determinant(design):
    """Answer the determinant of the information matrix."""
    return [determinant_of(information_of(design))]


def trace(design):
    """Answer 0 and the trace."""
    inverse = inverse_of(design)
    return [0] + lowest_terms(inverse.scaled_trace(), inverse.determinant)


def variance(design, vector):
    """Answer 0 and the variance of a vector."""
    check_vector(design, vector)
    inverse = inverse_of(design)
    return [0] + lowest_terms(inverse.scaled_variance(vector), inverse.determinant)


def candidate_variances(design):
    """Answer the number of candidates and the variance of each."""
    inverse = inverse_of(design)
    answer = [len(design.candidates)]
    for row in design.candidates:
        answer.extend(lowest_terms(inverse.scaled_variance(row), inverse.determinant))
    return answer


def is_optimal(design):
    """Answer whether the design passes the test, its worst candidate, and that one's variance times the size."""
    inverse = inverse_of(design)
    scaled = [inverse.scaled_variance(row) for row in design.candidates]
    greatest = max(scaled)
    product = sum(design.counts) * greatest
    passes = 1 if product <= design.column_count * inverse.determinant else 0
    return [passes, scaled.index(greatest)] + lowest_terms(product, inverse.determinant)


OPERATIONS = {
    0: create,
    1: add_candidate,
    2: remove_candidate,
    3: get_candidate,
    4: set_counts,
    5: counts,
    6: information,
    7: determinant,
    8: trace,
    9: variance,
    10: candidate_variances,
    11: is_optimal,
}
