"""The calls on one object that holds records, read from a list of numbers."""

from leastroom.faults import Fault
from leastroom.layouts import least_layout, put_in_order, rule_order, size_of, span_of
from leastroom.parsing import records_of

LOAD = 0
FIT = 1
LEAST = 2
RULE = 3

NO_RECORDS = -1
NO_SUCH_RECORD = -2
NO_SUCH_WORD = -3
NO_SUCH_ORDER = -4
TOO_MANY_TO_TRY = -6

WORDS = (0, 8, 16, 32, 64)
MOST_TRIED = 6


def answers(calls):
    reader = Reader(calls)
    keeper = Keeper()
    told = []
    while not reader.is_done():
        answer = answer_next(reader, keeper)
        told.append(len(answer))
        told.extend(answer)
    return told


def answer_next(reader, keeper):
    call = reader.take_number()
    if call == LOAD:
        return keeper.load(reader.take_row())
    if call not in (FIT, LEAST, RULE):
        raise NotImplementedError("no such call")
    r = reader.take_number()
    w = reader.take_number()
    if call == FIT:
        return keeper.fit(r, w, reader.take_row())
    if call == LEAST:
        return keeper.least(r, w)
    return keeper.rule(r, w)


class Reader:
    def __init__(self, numbers):
        self.numbers = numbers
        self.reached = 0

    def is_done(self):
        return self.reached == len(self.numbers)

    def take_number(self):
        self.reached += 1
        return self.numbers[self.reached - 1]

    def take_row(self):
        length = self.take_number()
        self.reached += length
        return self.numbers[self.reached - length:self.reached]


class Keeper:
    def __init__(self):
        self.records = []

    def load(self, text):
        try:
            records = records_of(text)
        except Fault as fault:
            return [0, fault.code, fault.place]
        self.records = records
        return [1, len(records)] + [record.leaf_count() for record in records]

    def fit(self, r, w, order):
        refusal = self.refusal_of(r, w)
        if refusal < 0:
            return [refusal]
        record = self.records[r]
        if sorted(order) != list(range(record.leaf_count())):
            return [NO_SUCH_ORDER]
        starts = put_in_order(record, order, w)
        span = span_of(record, starts)
        return [span, size_of(span)] + starts

    def least(self, r, w):
        refusal = self.refusal_of(r, w)
        if refusal < 0:
            return [refusal]
        record = self.records[r]
        if record.leaf_count() > MOST_TRIED:
            return [TOO_MANY_TO_TRY]
        starts = least_layout(record, w)
        span = span_of(record, starts)
        return [span, size_of(span)] + starts

    def rule(self, r, w):
        refusal = self.refusal_of(r, w)
        if refusal < 0:
            return [refusal]
        record = self.records[r]
        starts = put_in_order(record, rule_order(record), w)
        span = span_of(record, starts)
        return [span, record.bound(), size_of(span)] + starts

    # What every call with a record and a word looks at first; 0 if nothing is to be refused.
    def refusal_of(self, r, w):
        if len(self.records) == 0:
            return NO_RECORDS
        if not 0 <= r < len(self.records):
            return NO_SUCH_RECORD
        if w not in WORDS:
            return NO_SUCH_WORD
        return 0
