"""The calls on one object that holds records, read from a list of numbers."""

from leastroom.faults import Fault
from leastroom.layouts import crosses_any, is_right, own_order, put_in_order, rule_order, size_of
from leastroom.layouts import span_in_order, span_of
from leastroom.parsing import records_of
from leastroom.searching import first_order, order_count, orders_within

LOAD = 0
FIT = 1
LEAST = 2
RULE = 3
WASTE = 4
ORDERS = 5
JUDGE = 6
TABLE = 7

NO_RECORDS = -1
NO_SUCH_RECORD = -2
NO_SUCH_WORD = -3
NO_SUCH_ORDER = -4
NO_SUCH_LAYOUT = -4
TOO_MANY_TO_TRY = -6

NOT_TRIED = -1

WORDS = (0, 8, 16, 32, 64)
MOST_TRIED = 6
MOST_SIZE = 128
LAST_START = 1023


def answers(calls):
    reader = Reader(calls)
    keeper = Keeper()
    told = []
    while not reader.is_done():
        answer = answer_next(reader, keeper)
        told.append(len(answer))
        told.extend(answer)
    return told


def answer_next(reader, keeper):
    call = reader.take_number()
    if call == LOAD:
        return keeper.load(reader.take_row())
    if call == TABLE:
        return keeper.table(reader.take_number())
    return answer_of_record(call, reader, keeper)


def answer_of_record(call, reader, keeper):
    r = reader.take_number()
    w = reader.take_number()
    if call == FIT:
        return keeper.fit(r, w, reader.take_row())
    if call == LEAST:
        return keeper.least(r, w)
    if call == RULE:
        return keeper.rule(r, w)
    if call == WASTE:
        return keeper.waste(r, w)
    if call == ORDERS:
        return keeper.orders(r, w)
    if call == JUDGE:
        n = reader.take_number()
        return keeper.judge(r, w, n, reader.take_row())
    raise ValueError("no such call")


class Reader:
    def __init__(self, numbers):
        self.numbers = numbers
        self.reached = 0

    def is_done(self):
        return self.reached == len(self.numbers)

    def take_number(self):
        self.reached += 1
        return self.numbers[self.reached - 1]

    def take_row(self):
        length = self.take_number()
        self.reached += length
        return self.numbers[self.reached - length:self.reached]


class Keeper:
    def __init__(self):
        self.records = []

    def load(self, text):
        try:
            records = records_of(text)
        except Fault as fault:
            return [0, fault.code, fault.place]
        self.records = records
        return [1, len(records)] + [record.leaf_count() for record in records]

    def fit(self, r, w, order):
        refusal = self.refusal_of(r, w)
        if refusal < 0:
            return [refusal]
        record = self.records[r]
        if sorted(order) != own_order(record):
            return [NO_SUCH_ORDER]
        starts = put_in_order(record, order, w)
        return [span_of(record, starts)] + told_layout(record, starts)

    def least(self, r, w):
        refusal = self.refusal_to_try(r, w)
        if refusal < 0:
            return [refusal]
        record = self.records[r]
        starts = put_in_order(record, first_order(record, w), w)
        return [span_of(record, starts)] + told_layout(record, starts)

    def rule(self, r, w):
        refusal = self.refusal_of(r, w)
        if refusal < 0:
            return [refusal]
        record = self.records[r]
        starts = put_in_order(record, rule_order(record), w)
        return [span_of(record, starts), record.bound()] + told_layout(record, starts)

    def waste(self, r, w):
        refusal = self.refusal_to_try(r, w)
        if refusal < 0:
            return [refusal]
        record = self.records[r]
        span = least_span(record, w)
        ruled = span_in_order(record, rule_order(record), w)
        own = span_in_order(record, own_order(record), w)
        return [span - record.bound(), ruled - span, own - span]

    def orders(self, r, w):
        refusal = self.refusal_to_try(r, w)
        if refusal < 0:
            return [refusal]
        record = self.records[r]
        order = first_order(record, w)
        span = span_in_order(record, order, w)
        return [order_count(record.leaf_count()), orders_within(record, span, w)] + order

    def judge(self, r, w, n, starts):
        refusal = self.refusal_of(r, w)
        if refusal < 0:
            return [refusal]
        record = self.records[r]
        if not is_layout(record, n, starts):
            return [NO_SUCH_LAYOUT]
        if not is_right(record, n, starts) or crosses_any(record, starts, w):
            return [0]
        span = span_of(record, starts)
        return [1, span, above_least(record, span, w), span - record.bound()]

    def table(self, w):
        if len(self.records) == 0:
            return [NO_RECORDS]
        if w not in WORDS:
            return [NO_SUCH_WORD]
        told = [len(self.records)]
        for record in self.records:
            told.extend([record.bound(), span_in_order(record, rule_order(record), w), least_span(record, w)])
        return told

    # What every call with a record and a word looks at first; 0 if nothing is to be refused.
    def refusal_of(self, r, w):
        if len(self.records) == 0:
            return NO_RECORDS
        if not 0 <= r < len(self.records):
            return NO_SUCH_RECORD
        if w not in WORDS:
            return NO_SUCH_WORD
        return 0

    def refusal_to_try(self, r, w):
        refusal = self.refusal_of(r, w)
        if refusal == 0 and not can_be_tried(self.records[r]):
            return TOO_MANY_TO_TRY
        return refusal


def told_layout(record, starts):
    return [size_of(span_of(record, starts))] + starts


def is_layout(record, size, starts):
    if not 0 <= size <= MOST_SIZE or len(starts) != record.leaf_count():
        return False
    return all([0 <= start <= LAST_START for start in starts])


def can_be_tried(record):
    return record.leaf_count() <= MOST_TRIED


def least_span(record, word):
    if not can_be_tried(record):
        return NOT_TRIED
    return span_in_order(record, first_order(record, word), word)


def above_least(record, span, word):
    if not can_be_tried(record):
        return NOT_TRIED
    return span - least_span(record, word)
