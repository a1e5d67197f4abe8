"""Exact arithmetic over whole numbers: fractions, determinants and inverses."""


class Inverse:
    """The inverse of a symmetric matrix, kept as whole numbers over the determinant, which is above 0."""

    def __init__(self, matrix, determinant):
        self.determinant = determinant
        self.entries = cofactors_of(matrix)

    def scaled_variance(self, vector):
        """The variance of a vector times the determinant, a whole number."""
        total = 0
        for row, factor in zip(self.entries, vector):
            total += factor * sum([entry * other for entry, other in zip(row, vector)])
        return total


def lowest_terms(numerator, denominator):
    """Numerator and denominator of the same fraction in lowest terms; the denominator handed in is above 0."""
    divisor = denominator
    rest = abs(numerator)
    while rest:
        following = divisor % rest
        divisor = rest
        rest = following
    return [numerator // divisor, denominator // divisor]


def determinant_of(matrix):
    """The determinant of a square matrix; that of a matrix without rows is 1."""
    rows = [list(row) for row in matrix]
    size = len(rows)
    sign = 1
    divisor = 1
    for step in range(size):
        chosen = step
        while chosen < size and rows[chosen][step] == 0:
            chosen += 1
        if chosen == size:
            return 0
        if chosen > step:
            passed = rows[step]
            rows[step] = rows[chosen]
            rows[chosen] = passed
            sign = -sign
        clear_below(rows, step, divisor)
        divisor = rows[step][step]
    return sign * divisor


def clear_below(rows, step, divisor):
    """Make the entries below the pivot of this step 0, in whole numbers."""
    pivot = rows[step]
    for below in range(step + 1, len(rows)):
        row = rows[below]
        # The pivot of the step before divides each of these without a rest (Bareiss).
        rows[below] = [(entry * pivot[step] - row[step] * above) // divisor for entry, above in zip(row, pivot)]


def principal_minor(matrix, places):
    """The determinant of the rows and columns at these places."""
    return determinant_of([[matrix[row][column] for column in places] for row in places])


def scaled_trace_of(matrix):
    """The sum of the unit vectors' variances times the determinant, a whole number."""
    places = list(range(len(matrix)))
    return sum([principal_minor(matrix, places[:left_out] + places[left_out + 1:]) for left_out in places])


def sign_of(number):
    """1, 0 or -1 for a number above, equal to or below 0."""
    if number == 0:
        return 0
    return 1 if number > 0 else -1


def cofactors_of(matrix):
    """The cofactors of a square matrix, each at the place of its entry."""
    size = len(matrix)
    return [[cofactor(matrix, row, column) for column in range(size)] for row in range(size)]


def cofactor(matrix, row, column):
    """The determinant without this row and column, with the sign of their place."""
    smaller = [line[:column] + line[column + 1:] for line in matrix[:row] + matrix[row + 1:]]
    return determinant_of(smaller) * (1 if (row + column) % 2 == 0 else -1)
