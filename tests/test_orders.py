"""orders: how many there are, how many have the least span, and the first of these."""

import random
import unittest
from itertools import permutations

from tests.helper import (
    WORDS, ask_all_of, ask_of, fit, leaves_of, least, model_put, model_span, one_form, orders, plain_record,
    random_records,
)

HOW_MANY = {1: 1, 2: 2, 3: 6, 4: 24, 5: 120, 6: 720}


def ordered(text, w=0):
    return ask_of(text, orders(0, w))[0]


class Orders(unittest.TestCase):
    def test_how_many_there_are(self):
        for count, how_many in HOW_MANY.items():
            text = "record R { a : many " + str(count) + " from 0 to 1 ; }"
            for w in WORDS:
                self.assertEqual(ordered(text, w), [how_many, how_many] + list(range(count)))

    def test_a_single_order_has_the_least_span(self):
        self.assertEqual(ordered("record R { a : from 0 to 1 ; b : from 0 to 1000 at 16 ; }"), [2, 1, 1, 0])
        text = "record R { a : from 0 to 1 ; b : from 0 to 15 at 8 ; c : from 0 to 255 at 32 ; }"
        self.assertEqual(ordered(text), [6, 1, 2, 1, 0])

    def test_some_orders_have_the_least_span(self):
        text = "record R { a : from 0 to 0 ; b : from 0 to 7 at 4 ; c : from 0 to 7 at 4 ; }"
        self.assertEqual(ordered(text), [6, 4, 1, 0, 2])
        text = "record R { a : from 0 to 0 ; b : from 0 to 1 at 8 ; c : from 0 to 1000000 at 32 ; d : from 0 to 7 ; }"
        self.assertEqual(ordered(text), [24, 6, 2, 0, 1, 3])

    def test_words_can_leave_fewer(self):
        text = "record R { a : from 0 to 7 ; b : from 0 to 15 ; c : from 0 to 15 ; d : from 0 to 31 ; }"
        self.assertEqual(ordered(text), [24, 24, 0, 1, 2, 3])
        self.assertEqual(ordered(text, 8), [24, 14, 0, 3, 1, 2])

    def test_shared_bits(self):
        text = "record R { a : one { x : from 0 to 255 , y : from 0 to 255 } ; }"
        self.assertEqual(ordered(text), [6, 6, 0, 1, 2])
        text = "record R { a : one { x : from 0 to 255 , y : from 0 to 15 } ; }"
        self.assertEqual(ordered(text), [6, 5, 0, 1, 2])

    def test_7_leaves_and_more_are_refused(self):
        for count in range(7, 25):
            fields = " ".join(["f" + str(k) + " : from 0 to 1 ;" for k in range(count)])
            for w in WORDS:
                self.assertEqual(ordered("record R { " + fields + " }", w), [-6])


class AgainstAllOrders(unittest.TestCase):
    def assert_agrees(self, text, r, w, count):
        rows = list(permutations(range(count)))
        told = ask_all_of(text, [fit(r, w, row) for row in rows])
        spans = [row[0] for row in told]
        first = spans.index(min(spans))
        found, layout = ask_of(text, orders(r, w), least(r, w))
        self.assertEqual(found, [HOW_MANY[count], spans.count(min(spans))] + list(rows[first]), text)
        self.assertEqual(told[first], layout)
        return spans.count(min(spans)), first

    def test_numbers(self):
        rng = random.Random(23)
        told = []
        for count, rounds in ((1, 4), (2, 20), (3, 20), (4, 15), (5, 8), (6, 3)):
            for _ in range(rounds):
                text = one_form(plain_record(rng, count))
                for w in WORDS:
                    told.append(self.assert_agrees(text, 0, w, count))
        self.assertGreater(len(set(told)), 20)

    def test_all_shapes(self):
        rng = random.Random(24)
        for _ in range(40):
            records = random_records(rng, 6)
            for r in range(len(records)):
                self.assert_agrees(one_form(records), r, rng.choice(WORDS), len(leaves_of(records, r)))

    def test_against_the_model(self):
        rng = random.Random(25)
        for _ in range(60):
            records = random_records(rng, 4)
            for r in range(len(records)):
                leaves = leaves_of(records, r)
                w = rng.choice(WORDS)
                rows = list(permutations(range(len(leaves))))
                spans = [model_span(leaves, model_put(leaves, row, w)) for row in rows]
                told = [len(rows), spans.count(min(spans))] + list(rows[spans.index(min(spans))])
                self.assertEqual(ask_of(one_form(records), orders(r, w)), [told], one_form(records))
