"""table: of each record its bound, the span by the rule, the least span."""

import random
import unittest

from tests.helper import (
    FAR, WORDS, WORKED, ask, ask_of, bound_of, leaves_of, least, load, model_least, model_put, model_rule_order,
    model_span, one_form, random_records, rule, small_records, table,
)


class Table(unittest.TestCase):
    def test_one_record(self):
        for w in WORDS:
            self.assertEqual(ask_of("record R { a : from 0 to 1000000 at 32 ; }", table(w)), [[1, 20, 20, 20]])

    def test_each_word(self):
        told = ask_of("record R { a : from 0 to 15 ; b : many 2 from 0 to 7 ; c : many 3 from 0 to 3 ; }",
                      *[table(w) for w in WORDS])
        self.assertEqual(told, [[1, 16, 16, 16], [1, 16, 18, 16], [1, 16, 16, 16], [1, 16, 16, 16], [1, 16, 16, 16]])

    def test_a_record_with_more_than_6_leaves(self):
        text = "record R { a : many 7 from 0 to 31 ; } record Q { a : many 6 from 0 to 31 ; }"
        text += "record S { a : R ; b : Q ; }"
        self.assertEqual(ask_of(text, table(0)), [[3, 35, 35, -1, 30, 30, 30, 65, 65, -1]])
        self.assertEqual(ask_of(text, table(8)), [[3, 35, 53, -1, 30, 45, 45, 65, 101, -1]])

    def test_1_to_6_records(self):
        text = ""
        told = []
        for number, count in enumerate((6, 7, 1, 24, 5, 8)):
            fields = " ".join(["f" + str(k) + " : from 0 to 1 ;" for k in range(count)])
            text += "record R" + str(number) + " { " + fields + " } "
            told += [count, count, count if count <= 6 else -1]
            for w in WORDS:
                self.assertEqual(ask_of(text, table(w)), [[number + 1] + told])

    def test_words_that_are_none(self):
        for w in (-1, 1, 2, 4, 7, 9, 24, 63, 65, 128, -8, FAR, -FAR):
            self.assertEqual(ask_of(WORKED, table(w)), [[-3]])

    def test_no_records(self):
        for w in WORDS + (1, -1, FAR, -FAR):
            self.assertEqual(ask(table(w), load(""), table(w)), [[-1], [0, 3, 0], [-1]])

    def test_records_told_later(self):
        told = ask(load(WORKED), table(0), load("record S { a : from 0 to 3 ; }"), table(0), load("?"), table(0))
        self.assertEqual(told[1::2], [[2, 26, 26, 26, 11, 11, 11], [1, 2, 2, 2], [1, 2, 2, 2]])


class Agreement(unittest.TestCase):
    def test_with_least_and_rule(self):
        rng = random.Random(30)
        for number in range(60):
            records = small_records(rng) if number % 4 == 0 else random_records(rng, 12)
            text = one_form(records)
            for w in WORDS:
                told = [len(records)]
                for r in range(len(records)):
                    ruled, found = ask_of(text, rule(r, w), least(r, w))
                    told += [ruled[1], ruled[0], -1 if found == [-6] else found[0]]
                self.assertEqual(ask_of(text, table(w)), [told], text)

    def test_with_the_model(self):
        rng = random.Random(31)
        for _ in range(40):
            records = random_records(rng, 4)
            w = rng.choice(WORDS)
            told = [len(records)]
            for r in range(len(records)):
                leaves = leaves_of(records, r)
                ruled = model_span(leaves, model_put(leaves, model_rule_order(leaves), w))
                told += [bound_of(leaves), ruled, model_least(leaves, w)[0]]
            self.assertEqual(ask_of(one_form(records), table(w)), [told], one_form(records))
