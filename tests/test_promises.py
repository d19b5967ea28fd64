"""The document's promises 1 to 5, over many records, orders and layouts."""

import random
import unittest
from itertools import permutations

from tests.helper import (
    WORDS, ask_all_of, ask_of, fit, has_layout_within, judge, layout_faults, least, leaves_of, model_span, one_form,
    orders, random_records, rule, shuffled, table, waste,
)


def many_records(seed, rounds, most_leaves, greatest_width=21):
    rng = random.Random(seed)
    for _ in range(rounds):
        records = random_records(rng, most_leaves, greatest_width)
        for r in range(len(records)):
            yield rng, records, r, leaves_of(records, r)


def random_layouts(rng, leaves, w, rounds):
    """Layouts that are right and cross no word: each leaf, in some order, at some free place, not always the first."""
    for _ in range(rounds):
        starts = {}
        for number in shuffled(rng, len(leaves)):
            bit = leaves[number][1] * rng.randint(0, 3)
            while faults_of_some(leaves, {**starts, number: bit}, w):
                bit += leaves[number][1]
            starts[number] = bit
        yield [starts[number] for number in range(len(leaves))]


def faults_of_some(leaves, starts, w):
    put = sorted(starts)
    return layout_faults([leaves[other] for other in put], 1000, [starts[other] for other in put], w)


class Promises(unittest.TestCase):
    def assert_right(self, leaves, w, span, size, starts):
        self.assertEqual(len(starts), len(leaves))
        self.assertEqual(layout_faults(leaves, size, starts, w), [])
        self.assertEqual(span, model_span(leaves, starts))
        self.assertTrue(8 * size - 8 < span <= 8 * size)

    def test_1_leaves_put_in_any_order_are_a_right_layout(self):
        for rng, records, r, leaves in many_records(6, 150, 24):
            asked = [(w, shuffled(rng, len(leaves))) for w in WORDS for _ in range(3)]
            told = ask_of(one_form(records), *[fit(r, w, order) for w, order in asked])
            for (w, _), (span, size, *starts) in zip(asked, told):
                self.assert_right(leaves, w, span, size, starts)

    def test_1_so_are_the_layouts_of_least_and_rule(self):
        for _, records, r, leaves in many_records(7, 120, 6):
            for w in WORDS:
                (span, size, *starts), (ruled, _, ruled_size, *ruled_starts) = ask_of(
                    one_form(records), least(r, w), rule(r, w)
                )
                self.assert_right(leaves, w, span, size, starts)
                self.assert_right(leaves, w, ruled, ruled_size, ruled_starts)

    def test_1_all_of_them_are_judged_right(self):
        for rng, records, r, leaves in many_records(14, 60, 24):
            text = one_form(records)
            for w in WORDS:
                (span, size, *starts), (ruled, _, ruled_size, *ruled_starts) = ask_of(
                    text, fit(r, w, shuffled(rng, len(leaves))), rule(r, w)
                )
                told = ask_of(text, judge(r, w, size, starts), judge(r, w, ruled_size, ruled_starts))
                self.assertEqual([row[:2] for row in told], [[1, span], [1, ruled]], text)

    def test_2_and_3_no_right_layout_is_judged_below_the_least_or_the_bound(self):
        met = 0
        for rng, records, r, leaves in many_records(15, 60, 6, 8):
            text = one_form(records)
            for w in WORDS:
                layouts = list(random_layouts(rng, leaves, w, 4))
                told = ask_of(text, *[judge(r, w, 128, starts) for starts in layouts])
                found, ruled = ask_of(text, least(r, w), rule(r, w))
                for starts, (right, span, above_least, above_bound) in zip(layouts, told):
                    self.assertEqual([right, span], [1, model_span(leaves, starts)])
                    self.assertEqual([above_least, above_bound], [span - found[0], span - ruled[1]])
                    self.assertGreaterEqual(above_least, 0)
                    self.assertGreaterEqual(above_bound, above_least)
                    met += above_least > 0
        self.assertGreater(met, 100)

    def test_2_no_right_layout_is_smaller_than_the_least(self):
        for rng, records, r, leaves in many_records(8, 120, 5, 6):
            for w in WORDS:
                span = ask_of(one_form(records), least(r, w))[0][0]
                self.assertFalse(has_layout_within(leaves, span - 1, w), one_form(records))
                self.assertTrue(has_layout_within(leaves, span, w))

    def test_3_no_right_layout_is_smaller_than_the_bound(self):
        for rng, records, r, leaves in many_records(9, 100, 6, 4):
            bound = ask_of(one_form(records), rule(r, 0))[0][1]
            self.assertFalse(has_layout_within(leaves, bound - 1, 0), one_form(records))

    def test_3_no_span_is_below_the_bound(self):
        met = 0
        for rng, records, r, leaves in many_records(10, 150, 24):
            for w in WORDS:
                ruled, fitted = ask_of(one_form(records), rule(r, w), fit(r, w, shuffled(rng, len(leaves))))
                self.assertGreaterEqual(ruled[0], ruled[1])
                self.assertGreaterEqual(fitted[0], ruled[1])
                met += ruled[0] == ruled[1]
        self.assertGreater(met, 100)

    def test_3_where_the_rule_has_the_bound_so_has_the_least(self):
        for rng, records, r, leaves in many_records(11, 150, 6):
            for w in WORDS:
                ruled, found = ask_of(one_form(records), rule(r, w), least(r, w))
                self.assertTrue(ruled[1] <= found[0] <= ruled[0])

    def test_3_nothing_is_wasted_below_0(self):
        for rng, records, r, leaves in many_records(16, 100, 6):
            told = ask_of(one_form(records), *[waste(r, w) for w in WORDS])
            self.assertGreaterEqual(min(min(row) for row in told), 0)

    def test_4_the_first_order_with_the_least_span_is_told(self):
        for rng, records, r, leaves in many_records(12, 60, 4):
            orders = list(permutations(range(len(leaves))))
            for w in WORDS:
                found = ask_of(one_form(records), least(r, w))[0]
                told = ask_of(one_form(records), *[fit(r, w, order) for order in orders])
                first = min(range(len(orders)), key=lambda number: (told[number][0], number))
                self.assertEqual(found, told[first], one_form(records))

    def test_4_no_order_before_the_one_told_has_the_least_span(self):
        for rng, records, r, leaves in many_records(17, 25, 6):
            text = one_form(records)
            w = rng.choice(WORDS)
            (_, _, *first), (span, *_) = ask_of(text, orders(r, w), least(r, w))
            before = [order for order in permutations(range(len(leaves))) if list(order) < first]
            self.assertEqual(ask_of(text, fit(r, w, first))[0][0], span)
            for row in ask_all_of(text, [fit(r, w, order) for order in before]):
                self.assertGreater(row[0], span, text)

    def test_5_no_words_take_no_more_room(self):
        for rng, records, r, leaves in many_records(13, 120, 6):
            spans = [row[0] for row in ask_of(one_form(records), *[least(r, w) for w in WORDS])]
            self.assertEqual(spans[0], min(spans), one_form(records))

    def test_5_so_the_table_tells(self):
        more = 0
        for rng, records, r, leaves in many_records(18, 80, 6):
            none, *others = ask_of(one_form(records), *[table(w) for w in WORDS])
            for told in others:
                for without, with_words in zip(none[3::3], told[3::3]):
                    self.assertLessEqual(without, with_words)
                    more += without < with_words
        self.assertGreater(more, 20)
