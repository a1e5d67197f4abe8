"""What an instance stores, the errors that its operations end with, and the checks of their arguments."""

from bestdesigns.exact import Inverse, determinant_of

COLUMN_LIMIT = 4
CANDIDATE_LIMIT = 10
ENTRY_LIMIT = 10
COUNT_LIMIT = 20
SIZE_LIMIT = 20
BOUND_SIZE_LIMIT = 100
EXCHANGE_LIMIT = 20
STEP_LIMIT = 3
SEARCH_LIMIT = 500


class Refusal(Exception):
    """An operation ends with an error code and leaves the state as it was."""

    def __init__(self, code):
        self.code = code


class NotCreated(Refusal):
    """The instance is not usable yet."""

    def __init__(self):
        Refusal.__init__(self, -11)


class NoSuchCandidate(Refusal):
    """The candidate does not exist."""

    def __init__(self):
        Refusal.__init__(self, -2)


class AlreadyThere(Refusal):
    """There is already an equal candidate."""

    def __init__(self):
        Refusal.__init__(self, -17)


class OutOfRange(Refusal):
    """A parameter is outside its range."""

    def __init__(self):
        Refusal.__init__(self, -22)


class TooMany(Refusal):
    """There is no room for another candidate."""

    def __init__(self):
        Refusal.__init__(self, -28)


class SearchTooLarge(Refusal):
    """There are too many lists of counts to look through."""

    def __init__(self):
        Refusal.__init__(self, -28)


class NotRegular(Refusal):
    """The design's information matrix has no inverse."""

    def __init__(self):
        Refusal.__init__(self, -33)


class NothingFound(Refusal):
    """There is no such exchange, candidate or design."""

    def __init__(self):
        Refusal.__init__(self, -33)


class Design:
    """The columns, the candidates and their counts; without columns until it is created."""

    def __init__(self):
        self.column_count = 0
        self.candidates = []
        self.counts = []


def check_number(number, least, greatest):
    """Refuse a number outside its range."""
    if not least <= number <= greatest:
        raise OutOfRange()


def check_vector(design, vector):
    """Refuse a vector that has not one entry in range for each column."""
    if len(vector) != design.column_count:
        raise OutOfRange()
    if not all([abs(entry) <= ENTRY_LIMIT for entry in vector]):
        raise OutOfRange()


def check_counts(design, counts):
    """Refuse counts that have not one in range for each candidate."""
    if len(counts) != len(design.candidates):
        raise OutOfRange()
    if not all([0 <= count <= COUNT_LIMIT for count in counts]):
        raise OutOfRange()


def check_candidate(design, index):
    """Refuse the number of a candidate that does not exist."""
    if not 0 <= index < len(design.candidates):
        raise NoSuchCandidate()


def information_with(design, counts):
    """The information matrix with these counts, or other whole numbers in their place, below 0 too."""
    places = list(range(design.column_count))
    matrix = [[0 for column in places] for row in places]
    for entries, count in zip(design.candidates, counts):
        # Most lists of a search hold many counts of 0, and these add nothing.
        if count != 0:
            for row in places:
                factor = count * entries[row]
                for column in places:
                    matrix[row][column] += factor * entries[column]
    return matrix


def information_of(design):
    """The information matrix of the design."""
    return information_with(design, design.counts)


def regular_determinant(matrix):
    """The determinant of an information matrix; refused if it is 0."""
    determinant = determinant_of(matrix)
    if determinant == 0:
        raise NotRegular()
    return determinant


def inverse_with(design, counts):
    """The inverse of the information matrix with these counts; refused if there is none."""
    matrix = information_with(design, counts)
    return Inverse(matrix, regular_determinant(matrix))


def inverse_of(design):
    """The inverse of the information matrix; refused if the design is not regular."""
    return inverse_with(design, design.counts)
