"""All orders of a record's leaves: the first one that has the least span, and how many have it."""

from leastroom.layouts import NOT_PUT, first_fit


def first_order(record, word):
    search = Search(record, word)
    # No span is below the bound, so once an order has just that, none behind it is better.
    search.put_next([], [NOT_PUT] * len(record.leaves), record.bound())
    return search.best_order


def order_count(leaf_count):
    orders = 1
    for number in range(leaf_count):
        orders *= number + 1
    return orders


def orders_within(record, span, word):
    return ways_within(record, span, word, [NOT_PUT] * len(record.leaves))


# In how many orders the leaves that are still to be put stay within the span.
def ways_within(record, span, word, starts):
    fits = next_fits(record, starts, word)
    if len(fits) == 0:
        return 1
    ways = 0
    for number, start in fits:
        if start + record.leaves[number].width <= span:
            ways += ways_within(record, span, word, put_at(starts, number, start))
    return ways


# Each leaf that is still to be put, with the first bit that it would have if it came next.
def next_fits(record, starts, word):
    waiting = [number for number, start in enumerate(starts) if start == NOT_PUT]
    return [(number, first_fit(record, number, starts, word)) for number in waiting]


def put_at(starts, number, start):
    return starts[:number] + [start] + starts[number + 1:]


# All orders are gone through, the first one first; the best is the first
# among those with the least span so far.
class Search:
    def __init__(self, record, word):
        self.record = record
        self.word = word
        self.best_order = []
        self.best_span = -1

    def put_next(self, order, starts, span):
        if len(order) == len(starts):
            self.best_order = order
            self.best_span = span
        for number, start in next_fits(self.record, starts, self.word):
            reached = max(span, start + self.record.leaves[number].width)
            if self.is_better(reached):
                self.put_next(order + [number], put_at(starts, number, start), reached)

    # A span never shrinks while more leaves are put, so what isn't better by now won't be.
    def is_better(self, span):
        return self.best_span == -1 or span < self.best_span
