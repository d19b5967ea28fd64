"""The document's promises 1 to 5, over many records and orders."""

import random
import unittest
from itertools import permutations

from tests.helper import (
    WORDS, ask_of, fit, has_layout_within, layout_faults, least, leaves_of, model_span, one_form, random_records,
    rule, shuffled,
)


def many_records(seed, rounds, most_leaves, greatest_width=21):
    rng = random.Random(seed)
    for _ in range(rounds):
        records = random_records(rng, most_leaves, greatest_width)
        for r in range(len(records)):
            yield rng, records, r, leaves_of(records, r)


class Promises(unittest.TestCase):
    def assert_right(self, leaves, w, span, size, starts):
        self.assertEqual(len(starts), len(leaves))
        self.assertEqual(layout_faults(leaves, size, starts, w), [])
        self.assertEqual(span, model_span(leaves, starts))
        self.assertTrue(8 * size - 8 < span <= 8 * size)

    def test_1_leaves_put_in_any_order_are_a_right_layout(self):
        for rng, records, r, leaves in many_records(6, 150, 24):
            asked = [(w, shuffled(rng, len(leaves))) for w in WORDS for _ in range(3)]
            told = ask_of(one_form(records), *[fit(r, w, order) for w, order in asked])
            for (w, _), (span, size, *starts) in zip(asked, told):
                self.assert_right(leaves, w, span, size, starts)

    def test_1_so_are_the_layouts_of_least_and_rule(self):
        for _, records, r, leaves in many_records(7, 120, 6):
            for w in WORDS:
                (span, size, *starts), (ruled, _, ruled_size, *ruled_starts) = ask_of(
                    one_form(records), least(r, w), rule(r, w)
                )
                self.assert_right(leaves, w, span, size, starts)
                self.assert_right(leaves, w, ruled, ruled_size, ruled_starts)

    def test_2_no_right_layout_is_smaller_than_the_least(self):
        for rng, records, r, leaves in many_records(8, 120, 5, 6):
            for w in WORDS:
                span = ask_of(one_form(records), least(r, w))[0][0]
                self.assertFalse(has_layout_within(leaves, span - 1, w), one_form(records))
                self.assertTrue(has_layout_within(leaves, span, w))

    def test_3_no_right_layout_is_smaller_than_the_bound(self):
        for rng, records, r, leaves in many_records(9, 100, 6, 4):
            bound = ask_of(one_form(records), rule(r, 0))[0][1]
            self.assertFalse(has_layout_within(leaves, bound - 1, 0), one_form(records))

    def test_3_no_span_is_below_the_bound(self):
        met = 0
        for rng, records, r, leaves in many_records(10, 150, 24):
            for w in WORDS:
                ruled, fitted = ask_of(one_form(records), rule(r, w), fit(r, w, shuffled(rng, len(leaves))))
                self.assertGreaterEqual(ruled[0], ruled[1])
                self.assertGreaterEqual(fitted[0], ruled[1])
                met += ruled[0] == ruled[1]
        self.assertGreater(met, 100)

    def test_3_where_the_rule_has_the_bound_so_has_the_least(self):
        for rng, records, r, leaves in many_records(11, 150, 6):
            for w in WORDS:
                ruled, found = ask_of(one_form(records), rule(r, w), least(r, w))
                self.assertTrue(ruled[1] <= found[0] <= ruled[0])

    def test_4_the_first_order_with_the_least_span_is_told(self):
        for rng, records, r, leaves in many_records(12, 60, 4):
            orders = list(permutations(range(len(leaves))))
            for w in WORDS:
                found = ask_of(one_form(records), least(r, w))[0]
                told = ask_of(one_form(records), *[fit(r, w, order) for order in orders])
                first = min(range(len(orders)), key=lambda number: (told[number][0], number))
                self.assertEqual(found, told[first], one_form(records))

    def test_5_no_words_take_no_more_room(self):
        for rng, records, r, leaves in many_records(13, 120, 6):
            spans = [row[0] for row in ask_of(one_form(records), *[least(r, w) for w in WORDS])]
            self.assertEqual(spans[0], min(spans), one_form(records))
