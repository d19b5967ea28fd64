"""rule: leaves put by the rule, and the bound."""

import random
import unittest

from tests.helper import (
    WORDS, ask_of, bound_of, leaves_of, model_put, model_rule_order, one_form, random_records, rule, told_layout,
)


def ruled(text, w=0, r=0):
    return ask_of(text, rule(r, w))[0]


class Order(unittest.TestCase):
    def test_a_greater_alignment_comes_first(self):
        more = "c : from 0 to 1 at 32 ; d : from 0 to 100 at 8 ;"
        text = "record R { a : from 0 to 1000 ; b : from 0 to 1 at 2 ; " + more + " }"
        self.assertEqual(ruled(text), [25, 19, 4, 15, 2, 0, 8])

    def test_then_a_greater_width(self):
        more = "d : from 0 to 3 at 4 ; e : from 0 to 7 at 4 ;"
        text = "record R { a : from 0 to 1 ; b : from 0 to 255 ; c : from 0 to 15 ; " + more + " }"
        self.assertEqual(ruled(text), [18, 18, 3, 3, 6, 14, 4, 0])

    def test_then_the_lesser_number(self):
        self.assertEqual(ruled("record R { a : many 3 from 0 to 7 ; b : from 0 to 4 ; }"), [12, 12, 2, 0, 3, 6, 9])
        text = "record R { a : from 0 to 1 ; b : from 0 to 15 at 8 ; c : from -9 to 0 at 8 ; d : from 5 to 5 ; }"
        self.assertEqual(ruled(text), [12, 10, 2, 4, 0, 8, 5])

    def test_words(self):
        text = "record R { a : from 0 to 31 ; b : from 0 to 31 ; c : from 0 to 7 ; d : from 0 to 7 ; }"
        self.assertEqual(ruled(text), [16, 16, 2, 0, 5, 10, 13])
        self.assertEqual(ruled(text, 8), [16, 16, 2, 0, 8, 5, 13])
        text = "record R { a : many 8 from 0 to 100000 ; }"
        self.assertEqual([ruled(text, w)[:3] for w in WORDS],
                         [[136, 136, 17], [136, 136, 17], [136, 136, 17], [241, 136, 31], [162, 136, 21]])


class Bound(unittest.TestCase):
    def assert_bound(self, bound, text, r=0):
        for w in WORDS:
            self.assertEqual(ruled(text, w, r)[1], bound, text)

    def test_numbers(self):
        self.assert_bound(1, "record R { a : from 7 to 7 ; }")
        self.assert_bound(21, "record R { a : from -1000000 to 1000000 at 32 ; }")
        self.assert_bound(12, "record R { a : from 0 to 1 ; b : from 0 to 1000 at 32 ; c : from 3 to 3 at 16 ; }")

    def test_maybe(self):
        self.assert_bound(4, "record R { a : maybe from 0 to 7 ; }")
        self.assert_bound(5, "record R { a : maybe maybe from 0 to 7 at 8 ; }")

    def test_many(self):
        self.assert_bound(24, "record R { a : many 8 from 0 to 7 ; }")
        self.assert_bound(24, "record R { a : many 2 many 3 maybe from 0 to 7 ; }")

    def test_one(self):
        self.assert_bound(5, "record R { a : one { x : from 0 to 15 , y : from 0 to 1 } ; }")
        self.assert_bound(5, "record R { a : one { x : from 0 to 1 , y : from 0 to 15 } ; }")
        self.assert_bound(6, "record R { a : one { x : from 0 to 1 , y : from 0 to 15 , z : from 0 to 7 } ; }")
        choice = "one { x : from 0 to 1 , y : maybe from 0 to 7 , z : many 5 from 0 to 1 }"
        self.assert_bound(7, "record R { a : " + choice + " ; }")
        self.assert_bound(9, "record R { a : many 3 one { x : from 0 to 1 , y : from 0 to 3 } ; }")

    def test_named_records(self):
        before = "record Q { q : one { x : from 0 to 3 , y : from 0 to 1 } ; p : from 0 to 1 ; } "
        self.assert_bound(4, before)
        self.assert_bound(4, before + "record R { a : Q ; }", 1)
        self.assert_bound(14, before + "record R { a : many 2 Q ; b : maybe Q ; c : from 0 to 1 ; }", 1)
        before += "record R { a : Q ; } "
        self.assert_bound(14, before + "record S { a : one { x : R , y : many 3 R } ; b : from 0 to 1 ; }", 2)


class AgainstTheModel(unittest.TestCase):
    def test_many_records(self):
        rng = random.Random(5)
        for _ in range(250):
            records = random_records(rng, 18)
            for r in range(len(records)):
                leaves = leaves_of(records, r)
                order = model_rule_order(leaves)
                bound = bound_of(leaves)
                told = []
                for w in WORDS:
                    layout = told_layout(leaves, model_put(leaves, order, w))
                    told.append(layout[:1] + [bound] + layout[1:])
                self.assertEqual(ask_of(one_form(records), *[rule(r, w) for w in WORDS]), told, one_form(records))
