"""fit: leaves put in a told order."""

import random
import unittest

from tests.helper import (
    FAR, WORDS, WORKED, ask_of, fit, leaves_of, model_put, one_form, random_records, shuffled, told_layout,
)


def fitted(text, w, order):
    return ask_of(text, fit(0, w, order))[0]


class FirstPlaces(unittest.TestCase):
    def test_a_single_leaf(self):
        for w in WORDS:
            self.assertEqual(fitted("record R { a : from 0 to 0 ; }", w, [0]), [1, 1, 0])
            self.assertEqual(fitted("record R { a : from -1000000 to 1000000 at 32 ; }", w, [0]), [21, 3, 0])

    def test_widths(self):
        for least, greatest, width in (
            (0, 0, 1), (5, 5, 1), (0, 1, 1), (-1, 0, 1), (0, 2, 2), (0, 3, 2), (0, 4, 3), (-4, 3, 3), (-4, 4, 4),
            (7, 8, 1), (0, 255, 8), (0, 256, 9), (1, 256, 8), (-1000000, 0, 20), (-48575, 1000000, 20),
            (-48576, 1000000, 21), (-1000000, 1000000, 21),
        ):
            text = "record R { a : from " + str(least) + " to " + str(greatest) + " ; b : from 0 to 0 ; }"
            self.assertEqual(fitted(text, 0, [0, 1]), [width + 1, (width + 8) // 8, 0, width])

    def test_widths_of_tags(self):
        for count, width in ((2, 1), (3, 2), (4, 2)):
            told = " , ".join([name + " : from 0 to 7" for name in "xyzw"[:count]])
            starts = [0] + [width] * count
            self.assertEqual(
                fitted("record R { a : one { " + told + " } ; }", 0, list(range(count + 1))), [width + 3, 1] + starts
            )
        self.assertEqual(fitted("record R { a : maybe from 0 to 7 ; }", 0, [0, 1]), [4, 1, 0, 1])

    def test_the_size_is_as_few_bytes_as_have_room(self):
        for bits in range(1, 25):
            fields = " ".join(["f" + str(k) + " : from 0 to 0 ;" for k in range(bits)])
            self.assertEqual(fitted("record R { " + fields + " }", 0, list(range(bits)))[:2], [bits, (bits + 7) // 8])

    def test_alignments(self):
        for align in (1, 2, 4, 8, 16, 32):
            text = "record R { a : from 0 to 0 ; b : from 0 to 7 at " + str(align) + " ; c : from 0 to 0 ; }"
            self.assertEqual(fitted(text, 0, [0, 1, 2])[2:], [0, align, 1 if align > 1 else 4])
            self.assertEqual(fitted(text, 0, [1, 0, 2]), [5, 1, 3, 0, 4])

    def test_a_tag_is_not_aligned(self):
        choice = "one { x : from 0 to 1 at 8 , y : from 0 to 1 }"
        text = "record R { a : from 0 to 0 ; b : maybe from 0 to 7 at 16 ; c : " + choice + " ; }"
        self.assertEqual(fitted(text, 0, [0, 1, 2, 3, 4, 5]), [19, 3, 0, 1, 16, 2, 8, 3])

    def test_holes_are_filled(self):
        more = "c : from 0 to 255 ; d : from 0 to 127 ; e : from 0 to 31 ;"
        text = "record R { a : from 0 to 1 ; b : from 0 to 7 at 8 ; " + more + " }"
        self.assertEqual(fitted(text, 0, [0, 1, 2, 3, 4]), [24, 3, 0, 8, 11, 1, 19])

    def test_an_order_is_a_row_of_leaves(self):
        text = "record R { a : from 0 to 1 ; b : from 0 to 3 ; c : from 0 to 7 ; }"
        self.assertEqual(fitted(text, 0, [2, 0, 1]), [6, 1, 3, 4, 0])
        self.assertEqual(fitted(text, 0, [1, 2, 0]), [6, 1, 5, 0, 2])


class Words(unittest.TestCase):
    def test_no_leaf_crosses_a_word(self):
        text = "record R { a : from 0 to 31 ; b : from 0 to 31 ; c : from 0 to 7 ; d : from 0 to 1 ; }"
        self.assertEqual(fitted(text, 0, [0, 1, 2, 3]), [14, 2, 0, 5, 10, 13])
        self.assertEqual(fitted(text, 8, [0, 1, 2, 3]), [14, 2, 0, 8, 5, 13])
        self.assertEqual(fitted(text, 16, [0, 1, 2, 3]), [14, 2, 0, 5, 10, 13])

    def test_each_word(self):
        wide = "record R { a : many 8 from 0 to 100000 ; }"
        order = list(range(8))
        self.assertEqual(fitted(wide, 0, order)[2:], [17 * k for k in order])
        self.assertEqual(fitted(wide, 8, order)[2:], [17 * k for k in order])
        self.assertEqual(fitted(wide, 16, order)[2:], [17 * k for k in order])
        self.assertEqual(fitted(wide, 32, order)[2:], [32 * k for k in order])
        self.assertEqual(fitted(wide, 64, order)[2:], [0, 17, 34, 64, 81, 98, 128, 145])

    def test_a_leaf_as_wide_as_a_word(self):
        text = "record R { a : from 0 to 1 ; b : from 0 to 255 ; c : from 0 to 65535 ; }"
        self.assertEqual(fitted(text, 8, [0, 1, 2])[2:], [0, 8, 16])
        self.assertEqual(fitted(text, 16, [0, 1, 2])[2:], [0, 1, 16])
        self.assertEqual(fitted(text, 32, [0, 1, 2])[2:], [0, 1, 9])

    def test_a_leaf_wider_than_a_word_may_lie_anywhere(self):
        text = "record R { a : from 0 to 1 ; b : from 0 to 511 ; c : from 0 to 131071 ; d : from 0 to 255 ; }"
        self.assertEqual(fitted(text, 8, [0, 1, 2, 3]), [40, 5, 0, 1, 10, 32])
        self.assertEqual(fitted(text, 16, [0, 1, 2, 3]), [40, 5, 0, 1, 10, 32])

    def test_words_and_alignments_together(self):
        text = "record R { a : from 0 to 7 ; b : from 0 to 31 at 2 ; c : from 0 to 63 at 4 ; }"
        self.assertEqual(fitted(text, 8, [0, 1, 2])[2:], [0, 8, 16])
        self.assertEqual(fitted(text, 16, [0, 1, 2])[2:], [0, 4, 16])
        self.assertEqual(fitted(text, 0, [0, 1, 2])[2:], [0, 4, 12])


class SharedBits(unittest.TestCase):
    def test_alternatives_share_bits(self):
        text = "record R { a : one { x : from 0 to 255 , y : from 0 to 15 , z : from 0 to 3 } ; }"
        self.assertEqual(fitted(text, 0, [0, 1, 2, 3]), [10, 2, 0, 2, 2, 2])
        self.assertEqual(fitted(text, 0, [3, 2, 1, 0]), [10, 2, 8, 0, 0, 0])
        self.assertEqual(fitted(text, 8, [3, 2, 1, 0]), [10, 2, 8, 0, 0, 0])
        self.assertEqual(fitted(text, 8, [0, 1, 2, 3]), [16, 2, 0, 8, 2, 2])

    def test_what_is_in_one_alternative_shares_none(self):
        text = "record R { a : one { x : many 2 from 0 to 3 , y : many 3 from 0 to 1 } ; }"
        self.assertEqual(fitted(text, 0, [0, 1, 2, 3, 4, 5]), [5, 1, 0, 1, 3, 1, 2, 3])

    def test_a_maybe_shares_none(self):
        text = "record R { a : maybe from 0 to 3 ; b : maybe from 0 to 3 ; }"
        self.assertEqual(fitted(text, 0, [0, 1, 2, 3]), [6, 1, 0, 1, 3, 4])

    def test_a_tag_shares_none_with_what_it_guards(self):
        text = "record R { a : one { x : maybe from 0 to 3 , y : from 0 to 1 } ; }"
        self.assertEqual(fitted(text, 0, [0, 1, 2, 3]), [4, 1, 0, 1, 2, 1])

    def test_each_of_many_has_its_own_tags(self):
        text = "record R { a : many 2 one { x : from 0 to 3 , y : from 0 to 1 } ; }"
        self.assertEqual(fitted(text, 0, [0, 1, 2, 3, 4, 5]), [6, 1, 0, 1, 1, 3, 4, 4])

    def test_tags_further_out(self):
        inner = "one { u : from 0 to 3 , v : maybe from 0 to 1 }"
        text = "record R { a : one { x : " + inner + " , y : " + inner + " } ; b : from 0 to 1 ; }"
        self.assertEqual(fitted(text, 0, list(range(10))), [5, 1, 0, 1, 2, 2, 3, 1, 2, 2, 3, 4])

    def test_tags_within_a_named_record(self):
        before = "record Q { q : one { x : from 0 to 3 , y : from 0 to 1 } ; }"
        text = before + "record R { a : Q ; b : one { x : Q , y : Q } ; }"
        told = ask_of(text, fit(1, 0, list(range(10))))[0]
        self.assertEqual(told, [7, 1, 0, 1, 1, 3, 4, 5, 5, 4, 5, 5])


class AgainstTheModel(unittest.TestCase):
    def test_many_records_and_orders(self):
        rng = random.Random(2)
        for _ in range(250):
            records = random_records(rng, 24)
            calls, told = [], []
            for r in range(len(records)):
                leaves = leaves_of(records, r)
                for w in WORDS:
                    order = shuffled(rng, len(leaves))
                    calls.append(fit(r, w, order))
                    told.append(told_layout(leaves, model_put(leaves, order, w)))
            self.assertEqual(ask_of(one_form(records), *calls), told, one_form(records))


class WrongLists(unittest.TestCase):
    def test_lists_that_are_not_each_number_once(self):
        for order in (
            [], [0], [0, 1, 2, 3], [0, 1, 2, 3, 4, 5], [0, 1, 2, 3, 3], [0, 0, 1, 2, 3, 4], [1, 2, 3, 4, 5],
            [-1, 0, 1, 2, 3], [0, 1, 2, 3, FAR], [-FAR, 1, 2, 3, 4], [0, 1, 2, 3, -4], [0] * 2000, list(range(2000)),
            [FAR] * 5, [4, 4, 4, 4, 4], [0, 1, 2, 3, 4, 0, 1, 2, 3, 4],
        ):
            self.assertEqual(ask_of(WORKED, fit(0, 0, order)), [[-4]], order)

    def test_the_list_of_another_record(self):
        self.assertEqual(ask_of(WORKED, fit(1, 0, [0, 1, 2, 3, 4]), fit(0, 0, [0, 1])), [[-4], [-4]])
