"""waste: how far the least span is above the bound, and the rule's and the own order's above the least."""

import random
import unittest

from tests.helper import (
    WORDS, ask_of, bound_of, fit, leaves_of, least, model_least, model_put, model_rule_order, model_span, one_form,
    random_records, rule, small_records, waste,
)


def wasted(text, w=0):
    return ask_of(text, waste(0, w))[0]


class Waste(unittest.TestCase):
    def test_nothing_is_wasted(self):
        for count in range(1, 7):
            text = "record R { a : many " + str(count) + " from 0 to 1 ; }"
            for w in WORDS:
                self.assertEqual(wasted(text, w), [0, 0, 0])

    def test_a_single_leaf(self):
        for w in WORDS:
            self.assertEqual(wasted("record R { a : from 0 to 1000000 at 32 ; }", w), [0, 0, 0])

    def test_the_least_is_above_the_bound(self):
        self.assertEqual(wasted("record R { a : many 2 from 0 to 1 at 32 ; }"), [31, 0, 0])
        self.assertEqual(wasted("record R { a : many 3 from 0 to 31 ; }", 8), [6, 0, 0])
        self.assertEqual(wasted("record R { a : many 3 from 0 to 31 ; }", 16), [0, 0, 0])

    def test_the_rule_is_above_the_least(self):
        text = "record R { a : from 0 to 1 at 4 ; b : from 0 to 15 at 2 ; c : from 0 to 15 at 2 ; }"
        self.assertEqual(wasted(text), [0, 1, 1])
        text = "record R { a : from 0 to 15 ; b : many 2 from 0 to 7 ; c : many 3 from 0 to 3 ; }"
        self.assertEqual(wasted(text, 8), [0, 2, 2])
        self.assertEqual(wasted(text, 16), [0, 0, 0])

    def test_the_own_order_is_above_the_least(self):
        self.assertEqual(wasted("record R { a : from 0 to 1 ; b : from 0 to 1000 at 32 ; }"), [0, 0, 31])

    def test_shared_bits(self):
        text = "record R { a : one { x : from 0 to 255 at 8 , y : from 0 to 15 at 4 } ; b : from 0 to 3 ; }"
        self.assertEqual(wasted(text), [0, 0, 5])

    def test_7_leaves_and_more_are_refused(self):
        for count in range(7, 25):
            fields = " ".join(["f" + str(k) + " : from 0 to 1 ;" for k in range(count)])
            for w in WORDS:
                self.assertEqual(wasted("record R { " + fields + " }", w), [-6])


class Agreement(unittest.TestCase):
    def test_with_least_rule_and_fit(self):
        rng = random.Random(21)
        above = [0, 0, 0]
        for _ in range(25):
            text = one_form(small_records(rng))
            for w in WORDS:
                for r in range(6):
                    found, ruled, own, told = ask_of(
                        text, least(r, w), rule(r, w), fit(r, w, list(range(r + 1))), waste(r, w)
                    )
                    self.assertEqual(told, [found[0] - ruled[1], ruled[0] - found[0], own[0] - found[0]], text)
                    above = [count + (number > 0) for count, number in zip(above, told)]
        self.assertGreater(min(above), 10)

    def test_with_the_model(self):
        rng = random.Random(22)
        for _ in range(50):
            records = random_records(rng, 5)
            for r in range(len(records)):
                leaves = leaves_of(records, r)
                w = rng.choice(WORDS)
                span = model_least(leaves, w)[0]
                ruled = model_span(leaves, model_put(leaves, model_rule_order(leaves), w))
                own = model_span(leaves, model_put(leaves, list(range(len(leaves))), w))
                told = [span - bound_of(leaves), ruled - span, own - span]
                self.assertEqual(ask_of(one_form(records), waste(r, w)), [told], one_form(records))
