"""Growing: the rows of which more and more things are come to."""

from keptalive.heap import come_to


def counts_by_row(heap):
    """How many things that are come to each row made, by the row's number."""
    counts = {}
    for number in come_to(heap):
        row = heap.things[number].row
        counts[row] = counts.get(row, 0) + 1
    return counts


def is_rising(counts):
    """Whether each count is more than the one ahead of it."""
    return all([ahead < behind for ahead, behind in zip(counts, counts[1:])])


def rows_that_grow(heaps):
    """The rows of which more is come to at each snapshot than at the one ahead; of each how much is at the last."""
    counted = [counts_by_row(heap) for heap in heaps]
    last = counted[-1]
    # A row that isn't among the last counts has grown nowhere up to there.
    return [(row, last[row]) for row in sorted(last) if is_rising([counts.get(row, 0) for counts in counted])]
