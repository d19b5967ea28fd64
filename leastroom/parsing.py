"""From a text to the records that it tells, or to its fault."""

from leastroom.faults import FORM_TOO_LONG, NOT_ALLOWED, NOT_TOLD, OUT_OF_BOUNDS, TEXT_TOO_LONG
from leastroom.faults import TOLD_TWICE, TOO_MANY, TOO_MANY_LEAVES, Fault
from leastroom.shapes import Field, ManyShape, MaybeShape, NamedShape, NumberShape, OneShape, Record
from leastroom.tokens import tokens_of

MOST_BYTES = 4096
MOST_RECORDS = 6
MOST_ALTERNATIVES = 4
LEAST_ALTERNATIVES = 2
MOST_DEPTH = 6
MOST_LEAVES = 24
MOST_TIMES = 8
GREATEST_VALUE = 1000000
HOTTEST = 1000
ALIGNMENTS = (1, 2, 4, 8, 16, 32)


def records_of(text):
    if len(text) > MOST_BYTES:
        raise Fault(TEXT_TOO_LONG, MOST_BYTES)
    records = Parser(tokens_of(text)).read_records()
    if sum([len(record.form()) for record in records]) > MOST_BYTES:
        raise Fault(FORM_TOO_LONG, 0)
    return records


class Parser:
    def __init__(self, tokens):
        self.tokens = tokens
        self.reached = 0
        self.records = {}

    def next_kind(self):
        return self.tokens[self.reached].kind

    def fail(self, code):
        raise Fault(code, self.tokens[self.reached].place)

    def take(self, kind):
        if self.next_kind() != kind:
            self.fail(NOT_ALLOWED)
        self.reached += 1
        return self.tokens[self.reached - 1].written

    def take_new_name(self, names):
        if self.next_kind() == "name" and self.tokens[self.reached].written in names:
            self.fail(TOLD_TWICE)
        return self.take("name")

    def take_number(self, least, greatest):
        if self.next_kind() == "number" and not least <= int(self.tokens[self.reached].written) <= greatest:
            self.fail(OUT_OF_BOUNDS)
        return int(self.take("number"))

    def read_records(self):
        while self.next_kind() != "end" or len(self.records) == 0:
            if self.next_kind() == "record" and len(self.records) == MOST_RECORDS:
                self.fail(TOO_MANY)
            record = self.read_record()
            self.records[record.name] = record
        return list(self.records.values())

    def read_record(self):
        place = self.tokens[self.reached].place
        self.take("record")
        name = self.take_new_name(self.records)
        self.take("{")
        fields = self.read_fields()
        self.take("}")
        # Counted before the leaves are made: many within many can have very many.
        if sum([field.shape.leaf_count() for field in fields]) > MOST_LEAVES:
            raise Fault(TOO_MANY_LEAVES, place)
        return Record(name, fields)

    def read_fields(self):
        fields = {}
        while self.next_kind() != "}" or len(fields) == 0:
            name = self.take_new_name(fields)
            self.take(":")
            shape = self.read_shape(1)
            fields[name] = Field(name, shape, self.read_hot())
            self.take(";")
        return list(fields.values())

    def read_hot(self):
        if self.next_kind() != "hot":
            return 1
        self.take("hot")
        return self.take_number(1, HOTTEST)

    def read_shape(self, depth):
        if depth > MOST_DEPTH:
            self.fail(TOO_MANY)
        if self.next_kind() == "from":
            return self.read_number_shape()
        if self.next_kind() == "maybe":
            self.take("maybe")
            return MaybeShape(self.read_shape(depth + 1))
        if self.next_kind() == "many":
            self.take("many")
            times = self.take_number(1, MOST_TIMES)
            return ManyShape(times, self.read_shape(depth + 1))
        if self.next_kind() == "one":
            return self.read_one_shape(depth)
        return self.read_named_shape()

    def read_number_shape(self):
        self.take("from")
        first = self.read_value()
        self.take("to")
        last = self.read_value()
        if last < first:
            # The last number has been taken by now, and the fault is at its own first byte.
            raise Fault(OUT_OF_BOUNDS, self.tokens[self.reached - 1].place)
        return NumberShape(first, last, self.read_align())

    def read_value(self):
        if self.next_kind() != "-":
            return self.take_number(0, GREATEST_VALUE)
        self.take("-")
        return -self.take_number(0, GREATEST_VALUE)

    def read_align(self):
        if self.next_kind() != "at":
            return 1
        self.take("at")
        if self.next_kind() == "number" and int(self.tokens[self.reached].written) not in ALIGNMENTS:
            self.fail(OUT_OF_BOUNDS)
        return int(self.take("number"))

    def read_one_shape(self, depth):
        inners = {}
        self.take("one")
        self.take("{")
        self.read_alternative(inners, depth)
        while self.next_kind() != "}" or len(inners) < LEAST_ALTERNATIVES:
            self.take(",")
            if len(inners) == MOST_ALTERNATIVES:
                self.fail(TOO_MANY)
            self.read_alternative(inners, depth)
        self.take("}")
        return OneShape(list(inners), list(inners.values()))

    def read_alternative(self, inners, depth):
        name = self.take_new_name(inners)
        self.take(":")
        inners[name] = self.read_shape(depth + 1)

    def read_named_shape(self):
        if self.next_kind() == "name" and self.tokens[self.reached].written not in self.records:
            self.fail(NOT_TOLD)
        return NamedShape(self.records[self.take("name")])
