"""The searches: the best exchange, and the best designs of a size. None of them changes the design."""

from bestdesigns.exact import determinant_of, scaled_trace_of
from bestdesigns.state import COUNT_LIMIT, SEARCH_LIMIT, SIZE_LIMIT, NothingFound, SearchTooLarge
from bestdesigns.state import check_number, information_of, information_with


def changed(counts, index, difference):
    """A copy of the counts in which this one is greater by the difference."""
    copied = list(counts)
    copied[index] += difference
    return copied


def determinants_with(design, options):
    """The determinant with each of these lists of counts."""
    return [determinant_of(information_with(design, counts)) for counts in options]


def best_change(design, indexes, difference):
    """Of these candidates the first one whose changed count makes the determinant greatest, and that determinant."""
    if not indexes:
        raise NothingFound()
    determinants = determinants_with(design, [changed(design.counts, index, difference) for index in indexes])
    greatest = max(determinants)
    return (indexes[determinants.index(greatest)], greatest)


def exchanges_of(counts):
    """Every exchange, in the document's order, as the candidate that is removed and the one that is added."""
    found = []
    for removed, count in enumerate(counts):
        for added, other in enumerate(counts):
            if removed != added and count > 0 and other < COUNT_LIMIT:
                found.append((removed, added))
    return found


def exchanged(counts, removed, added):
    """A copy of the counts after this exchange."""
    return changed(changed(counts, removed, -1), added, 1)


def best_exchange(design):
    """The candidate removed, the one added and the determinant of the best exchange; None if there is none."""
    pairs = exchanges_of(design.counts)
    determinants = determinants_with(design, [exchanged(design.counts, pair[0], pair[1]) for pair in pairs])
    greatest = max(determinants, default=0)
    if greatest <= determinant_of(information_of(design)):
        return None
    pair = pairs[determinants.index(greatest)]
    return (pair[0], pair[1], greatest)


def number_of_lists(places, size):
    """How many lists of counts have this sum: the binomial coefficient of size + places - 1 over size."""
    total = 1
    for step in range(1, size + 1):
        total = total * (places - 1 + step) // step
    return total


def lists_of_counts(places, size):
    """Every list of counts with this sum, the lexicographically greatest first."""
    if places == 0:
        return []
    begun = [[]]
    while len(begun[0]) < places - 1:
        longer = []
        for start in begun:
            for count in range(size - sum(start), -1, -1):
                longer.append(start + [count])
        begun = longer
    return [start + [size - sum(start)] for start in begun]


def designs_to_search(design, size):
    """The lists of counts among which the best design of a size is sought; refused if they are too many."""
    check_number(size, 1, SIZE_LIMIT)
    places = len(design.candidates)
    if number_of_lists(places, size) > SEARCH_LIMIT:
        raise SearchTooLarge()
    return lists_of_counts(places, size)


def best_design(design, size):
    """The counts of the best design of a size."""
    options = designs_to_search(design, size)
    determinants = determinants_with(design, options)
    greatest = max(determinants, default=0)
    if greatest == 0:
        raise NothingFound()
    # The first one is the lexicographically greatest.
    return options[determinants.index(greatest)]


def best_design_by_trace(design, size):
    """The counts of the best design by trace of a size."""
    best = None
    for counts in designs_to_search(design, size):
        matrix = information_with(design, counts)
        scale = determinant_of(matrix)
        if scale != 0:
            scaled = scaled_trace_of(matrix)
            # An equal trace does not replace the one before, which is lexicographically greater.
            if best is None or scaled * best[1] < best[0] * scale:
                best = (scaled, scale, counts)
    if best is None:
        raise NothingFound()
    return best[2]
