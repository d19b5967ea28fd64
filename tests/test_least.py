"""least: the least span of all orders, and the layout of its first order."""

import random
import unittest

from tests.helper import WORDS, ask_of, leaves_of, least, model_least, one_form, plain_record, random_records


class Least(unittest.TestCase):
    def test_a_single_leaf(self):
        for w in WORDS:
            self.assertEqual(ask_of("record R { a : from 0 to 1000 at 32 ; }", least(0, w)), [[10, 2, 0]])

    def test_holes_are_avoided(self):
        text = "record R { a : from 0 to 1 ; b : from 0 to 255 at 8 ; c : from 0 to 1 ; d : from 0 to 255 at 8 ; }"
        self.assertEqual(ask_of(text, least(0, 0)), [[18, 3, 16, 0, 17, 8]])

    def test_words_can_cost_room(self):
        text = "record R { a : from 0 to 31 ; b : from 0 to 31 ; c : from 0 to 15 ; }"
        told = ask_of(text, *[least(0, w) for w in WORDS])
        self.assertEqual(told[0], [14, 2, 0, 5, 10])
        self.assertEqual(told[1], [20, 3, 0, 8, 16])
        self.assertEqual(told[2:], [[14, 2, 0, 5, 10]] * 3)

    def test_the_first_of_several_orders_is_told(self):
        text = "record R { a : from 0 to 1 ; b : from 0 to 1 ; c : from 0 to 1 ; }"
        self.assertEqual(ask_of(text, least(0, 0)), [[3, 1, 0, 1, 2]])
        text = "record R { a : from 0 to 31 ; b : from 0 to 7 ; c : from 0 to 31 ; d : from 0 to 7 ; }"
        self.assertEqual(ask_of(text, least(0, 8)), [[16, 2, 0, 5, 8, 13]])
        text = "record R { a : from 0 to 0 ; b : from 0 to 7 at 4 ; c : from 0 to 7 at 4 ; d : from 0 to 0 ; }"
        self.assertEqual(ask_of(text, least(0, 0)), [[8, 1, 3, 0, 4, 7]])

    def test_shared_bits(self):
        text = "record R { a : one { x : from 0 to 255 at 8 , y : from 0 to 15 at 4 } ; b : from 0 to 3 ; }"
        self.assertEqual(ask_of(text, least(0, 0), least(0, 8)), [[11, 2, 8, 0, 0, 9], [11, 2, 8, 0, 0, 9]])

    def test_up_to_6_leaves_are_tried(self):
        for count in range(1, 7):
            fields = " ".join(["f" + str(k) + " : from 0 to 1 ;" for k in range(count)])
            self.assertEqual(ask_of("record R { " + fields + " }", least(0, 0)), [[count, 1] + list(range(count))])

    def test_7_leaves_and_more_are_refused(self):
        for count in range(7, 25):
            fields = " ".join(["f" + str(k) + " : from 0 to 1 ;" for k in range(count)])
            self.assertEqual(ask_of("record R { " + fields + " }", least(0, 0)), [[-6]])
        self.assertEqual(ask_of("record R { a : maybe many 6 from 0 to 1 ; }", least(0, 0)), [[-6]])

    def test_numbers_against_the_model(self):
        rng = random.Random(3)
        for count, rounds in ((1, 30), (2, 60), (3, 60), (4, 40), (5, 8), (6, 2)):
            for _ in range(rounds):
                records = plain_record(rng, count)
                leaves = leaves_of(records, 0)
                told = [model_least(leaves, w) for w in WORDS]
                self.assertEqual(ask_of(one_form(records), *[least(0, w) for w in WORDS]), told, one_form(records))

    def test_all_shapes_against_the_model(self):
        rng = random.Random(4)
        for _ in range(60):
            records = random_records(rng, 5)
            for r in range(len(records)):
                leaves = leaves_of(records, r)
                w = rng.choice(WORDS)
                self.assertEqual(ask_of(one_form(records), least(r, w)), [model_least(leaves, w)], one_form(records))
