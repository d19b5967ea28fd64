"""Where leaves are put, one after the other, each at the first place where it fits."""

NOT_PUT = -1


def size_of(span):
    return (span + 7) // 8


def crosses(start, width, word):
    return 0 < word and width <= word and start // word != (start + width - 1) // word


def round_up(bit, align):
    return (bit + align - 1) // align * align


# The order's layout, as each leaf's first bit, in the order of leaves.
def put_in_order(record, order, word):
    starts = [NOT_PUT] * len(record.leaves)
    for number in order:
        starts[number] = first_fit(record, number, starts, word)
    return starts


def first_fit(record, number, starts, word):
    align = record.leaves[number].align
    start = 0
    free = beyond_hindrance(record, number, start, starts, word)
    while free != start:
        start = round_up(free, align)
        free = beyond_hindrance(record, number, start, starts, word)
    return start


# The bit itself if the leaf can begin there. Else a later one: whatever hinders
# the leaf here hinders it at all bits between, so these need no look.
def beyond_hindrance(record, number, start, starts, word):
    width = record.leaves[number].width
    if crosses(start, width, word):
        return (start // word + 1) * word
    for rival in record.rivals[number]:
        taken = starts[rival]
        if taken != NOT_PUT and taken < start + width:
            free = taken + record.leaves[rival].width
            if start < free:
                return free
    return start


def span_of(record, starts):
    return max([start + leaf.width for start, leaf in zip(starts, record.leaves)])


def rule_order(record):
    leaves = record.leaves
    return sorted(range(len(leaves)), key=lambda number: (-leaves[number].align, -leaves[number].width, number))


def least_layout(record, word):
    search = Search(record, word)
    search.put_next([NOT_PUT] * len(record.leaves), len(record.leaves), 0)
    return search.best


# All orders are gone through, the first one first; best is the first layout
# among those with the least span so far.
class Search:
    def __init__(self, record, word):
        self.record = record
        self.word = word
        self.best = []
        self.best_span = -1

    def put_next(self, starts, left, span):
        if left == 0:
            self.best = starts
            self.best_span = span
        for number, leaf in enumerate(self.record.leaves):
            if starts[number] == NOT_PUT:
                start = first_fit(self.record, number, starts, self.word)
                reached = max(span, start + leaf.width)
                if self.is_better(reached):
                    self.put_next(starts[:number] + [start] + starts[number + 1:], left - 1, reached)

    # A span never shrinks while more leaves are put, so what isn't better by now won't be.
    def is_better(self, span):
        return self.best_span == -1 or span < self.best_span
