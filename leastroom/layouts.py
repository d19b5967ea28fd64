"""Layouts, each as its leaves' first bits: when one is right, and how leaves are put one after the other."""

NOT_PUT = -1


def size_of(span):
    return (span + 7) // 8


def span_of(record, starts):
    return max([start + leaf.width for start, leaf in zip(starts, record.leaves)])


def crosses(start, width, word):
    return 0 < word and width <= word and start // word != (start + width - 1) // word


def crosses_any(record, starts, word):
    return any([crosses(start, leaf.width, word) for start, leaf in zip(starts, record.leaves)])


def is_right(record, size, starts):
    return not any([has_fault(record, number, size, starts) for number in range(len(starts))])


def has_fault(record, number, size, starts):
    leaf = record.leaves[number]
    start = starts[number]
    if start + leaf.width > 8 * size or start % leaf.align != 0:
        return True
    # Later leaves are looked at too: a bit that two leaves share is a fault of the layout, whichever comes first.
    return any([overlap(record, number, rival, starts) for rival in record.rivals[number]])


def overlap(record, number, other, starts):
    start = starts[number]
    other_start = starts[other]
    return start < other_start + record.leaves[other].width and other_start < start + record.leaves[number].width


def round_up(bit, align):
    return (bit + align - 1) // align * align


# The order's layout, as each leaf's first bit, in the order of leaves.
def put_in_order(record, order, word):
    starts = [NOT_PUT] * len(record.leaves)
    for number in order:
        starts[number] = first_fit(record, number, starts, word)
    return starts


def first_fit(record, number, starts, word):
    align = record.leaves[number].align
    start = 0
    free = beyond_hindrance(record, number, start, starts, word)
    while free != start:
        start = round_up(free, align)
        free = beyond_hindrance(record, number, start, starts, word)
    return start


# The bit itself if the leaf can begin there. Else a later one: whatever hinders
# the leaf here hinders it at all bits between, so these need no look.
def beyond_hindrance(record, number, start, starts, word):
    width = record.leaves[number].width
    if crosses(start, width, word):
        return (start // word + 1) * word
    for rival in record.rivals[number]:
        taken = starts[rival]
        if taken != NOT_PUT and taken < start + width:
            free = taken + record.leaves[rival].width
            if start < free:
                return free
    return start


def own_order(record):
    return list(range(len(record.leaves)))


def rule_order(record):
    leaves = record.leaves
    return sorted(own_order(record), key=lambda number: (-leaves[number].align, -leaves[number].width, number))


def span_in_order(record, order, word):
    return span_of(record, put_in_order(record, order, word))
