"""judge: whether a told layout is right and crosses no word, and how far it is above the least and the bound."""

import random
import unittest

from tests.helper import (
    FAR, WORDS, WORKED, ask_all_of, ask_of, fit, judge, leaves_of, least, model_judge, model_least, model_put,
    one_form, random_records, rule, shuffled, small_records,
)

ONE_BIT = "record R { a : from 0 to 1 ; }"
ONE_BYTE = "record R { a : from 0 to 255 ; }"
PAIR = "record R { a : from 0 to 7 ; b : from 0 to 15 ; }"
CHOICE = "record R { a : one { x : from 0 to 255 , y : from 0 to 15 , z : maybe from 0 to 3 } ; b : from 0 to 3 ; }"


def judged(text, w, n, starts):
    return ask_of(text, judge(0, w, n, starts))[0]


class Size(unittest.TestCase):
    def test_a_leaf_at_the_very_end(self):
        self.assertEqual(judged(ONE_BYTE, 0, 1, [0]), [1, 8, 0, 0])
        self.assertEqual(judged(ONE_BYTE, 0, 2, [8]), [1, 16, 8, 8])
        self.assertEqual(judged(ONE_BIT, 0, 3, [23]), [1, 24, 23, 23])
        self.assertEqual(judged(PAIR, 0, 1, [5, 1]), [1, 8, 1, 1])

    def test_a_leaf_beyond_the_end(self):
        self.assertEqual(judged(ONE_BYTE, 0, 1, [1]), [0])
        self.assertEqual(judged(ONE_BYTE, 0, 2, [9]), [0])
        self.assertEqual(judged(ONE_BIT, 0, 3, [24]), [0])
        self.assertEqual(judged(PAIR, 0, 1, [6, 1]), [0])
        self.assertEqual(judged(PAIR, 0, 1, [0, 5]), [0])

    def test_the_size_may_be_greater_than_needed(self):
        for n in range(1, 129):
            self.assertEqual(judged(ONE_BYTE, 0, n, [0]), [1, 8, 0, 0])

    def test_the_size_0(self):
        self.assertEqual(judged(ONE_BIT, 0, 0, [0]), [0])
        self.assertEqual(judged(ONE_BIT, 8, 0, [1023]), [0])
        self.assertEqual(judged("record R { a : many 7 from 0 to 1 ; }", 0, 0, list(range(7))), [0])

    def test_the_size_128(self):
        self.assertEqual(judged(ONE_BIT, 0, 128, [1023]), [1, 1024, 1023, 1023])
        self.assertEqual(judged(ONE_BIT, 64, 128, [1023]), [1, 1024, 1023, 1023])
        self.assertEqual(judged(ONE_BIT, 0, 127, [1023]), [0])
        self.assertEqual(judged(ONE_BYTE, 0, 128, [1016]), [1, 1024, 1016, 1016])
        self.assertEqual(judged(ONE_BYTE, 0, 128, [1017]), [0])
        self.assertEqual(judged(ONE_BYTE, 0, 128, [1023]), [0])


class Alignment(unittest.TestCase):
    def test_only_multiples_are_right(self):
        for align in (1, 2, 4, 8, 16, 32):
            text = "record R { a : from 0 to 1 at " + str(align) + " ; }"
            told = ask_all_of(text, [judge(0, 0, 16, [start]) for start in range(128)])
            right = [[1, start + 1, start, start] if start % align == 0 else [0] for start in range(128)]
            self.assertEqual(told, right)

    def test_a_tag_is_not_aligned(self):
        text = "record R { a : maybe from 0 to 1 at 8 ; }"
        self.assertEqual(judged(text, 0, 2, [3, 8]), [1, 9, 7, 7])
        self.assertEqual(judged(text, 0, 2, [3, 9]), [0])


class SharedBits(unittest.TestCase):
    def test_leaves_that_may_be_there_together(self):
        for start in range(0, 13):
            clear = start + 4 <= 6 or start >= 9
            self.assertEqual(judged(PAIR, 0, 2, [6, start])[0], 1 if clear else 0)
        for start in range(0, 14):
            clear = start + 3 <= 6 or start >= 10
            self.assertEqual(judged(PAIR, 0, 2, [start, 6])[0], 1 if clear else 0)

    def test_one_leaf_within_another(self):
        text = "record R { a : from 0 to 255 ; b : from 0 to 1 ; }"
        for start in range(0, 16):
            self.assertEqual(judged(text, 0, 2, [4, start])[0], 0 if 4 <= start < 12 else 1)

    def test_alternatives_are_never_there_together(self):
        # The leaves: the one's tag, x, y, z's tag, what is in z, b.
        self.assertEqual(judged(CHOICE, 0, 2, [0, 4, 4, 4, 5, 2]), [1, 12, 0, 0])
        self.assertEqual(judged(CHOICE, 0, 2, [0, 4, 8, 11, 4, 2]), [1, 12, 0, 0])

    def test_a_tag_and_what_it_guards(self):
        self.assertEqual(judged(CHOICE, 0, 2, [4, 4, 4, 4, 5, 2]), [0])
        self.assertEqual(judged(CHOICE, 0, 2, [0, 4, 4, 5, 5, 2]), [0])
        self.assertEqual(judged(CHOICE, 0, 2, [0, 4, 4, 4, 4, 2]), [0])

    def test_an_alternative_and_another_field(self):
        self.assertEqual(judged(CHOICE, 0, 2, [0, 4, 4, 4, 5, 4]), [0])
        self.assertEqual(judged(CHOICE, 0, 2, [0, 4, 4, 4, 5, 11]), [0])
        self.assertEqual(judged(CHOICE, 0, 2, [0, 4, 4, 4, 5, 12]), [1, 14, 2, 2])

    def test_what_is_in_two_maybes(self):
        text = "record R { a : maybe from 0 to 3 ; b : maybe from 0 to 3 ; }"
        self.assertEqual(judged(text, 0, 1, [0, 1, 3, 4]), [1, 6, 0, 0])
        self.assertEqual(judged(text, 0, 1, [0, 1, 3, 1]), [0])

    def test_the_same_tag_in_two_of_many(self):
        text = "record R { a : many 2 one { x : from 0 to 3 , y : from 0 to 1 } ; }"
        self.assertEqual(judged(text, 0, 1, [0, 1, 1, 3, 4, 4]), [1, 6, 0, 0])
        self.assertEqual(judged(text, 0, 1, [0, 1, 1, 3, 4, 1]), [0])


class Words(unittest.TestCase):
    def test_a_leaf_that_crosses(self):
        for w in WORDS:
            told = ask_all_of(PAIR, [judge(0, w, 32, [0, start]) for start in range(3, 200)])
            for start, answer in zip(range(3, 200), told):
                over = w > 0 and start % w + 4 > w
                self.assertEqual(answer, [0] if over else [1, start + 4, start - 3, start - 3], (w, start))

    def test_a_leaf_that_ends_just_at_the_end_of_a_word(self):
        for w in (8, 16, 32, 64):
            self.assertEqual(judged(PAIR, w, 9, [0, w - 4]), [1, w, w - 7, w - 7])
            self.assertEqual(judged(PAIR, w, 9, [0, w - 3]), [0])
            self.assertEqual(judged(PAIR, w, 9, [0, w]), [1, w + 4, w - 3, w - 3])

    def test_a_leaf_as_wide_as_a_word(self):
        for w, greatest in ((8, 255), (16, 65535)):
            text = "record R { a : from 0 to " + str(greatest) + " ; }"
            for start in range(0, 3 * w):
                right = [1, start + w, start, start] if start % w == 0 else [0]
                self.assertEqual(judged(text, w, 10, [start]), right)

    def test_a_leaf_wider_than_a_word_may_lie_anywhere(self):
        for w, greatest in ((8, 256), (16, 65536)):
            text = "record R { a : from 0 to " + str(greatest) + " ; }"
            for start in range(0, 3 * w):
                self.assertEqual(judged(text, w, 10, [start]), [1, start + w + 1, start, start])

    def test_the_least_span_is_that_with_the_same_word(self):
        text = "record R { a : many 3 from 0 to 31 ; }"
        self.assertEqual(judged(text, 0, 3, [0, 8, 16]), [1, 21, 6, 6])
        self.assertEqual(judged(text, 8, 3, [0, 8, 16]), [1, 21, 0, 6])
        self.assertEqual(judged(text, 16, 3, [0, 8, 16]), [1, 21, 6, 6])
        self.assertEqual(judged(text, 0, 3, [0, 5, 10]), [1, 15, 0, 0])
        self.assertEqual(judged(text, 8, 3, [0, 5, 10]), [0])


class ManyLeaves(unittest.TestCase):
    def test_6_leaves(self):
        text = "record R { a : many 6 from 0 to 1 ; }"
        self.assertEqual(judged(text, 0, 1, [5, 4, 3, 2, 1, 0]), [1, 6, 0, 0])
        self.assertEqual(judged(text, 0, 1, [5, 4, 3, 2, 1, 7]), [1, 8, 2, 2])

    def test_7_leaves(self):
        text = "record R { a : many 7 from 0 to 1 ; }"
        for w in WORDS:
            self.assertEqual(judged(text, w, 1, [0, 1, 2, 3, 4, 5, 6]), [1, 7, -1, 0])
            self.assertEqual(judged(text, w, 2, [9, 1, 2, 3, 4, 5, 6]), [1, 10, -1, 3])
            self.assertEqual(judged(text, w, 1, [9, 1, 2, 3, 4, 5, 6]), [0])
            self.assertEqual(judged(text, w, 2, [1, 1, 2, 3, 4, 5, 6]), [0])

    def test_24_leaves(self):
        text = "record R { a : many 8 many 3 from 0 to 1000000 at 32 ; }"
        starts = [32 * number for number in range(24)]
        self.assertEqual(judged(text, 64, 96, starts), [1, 756, -1, 276])
        self.assertEqual(judged(text, 64, 94, starts), [0])


class WrongLayouts(unittest.TestCase):
    def test_the_size(self):
        for n in (-1, -2, 129, 130, 256, 1024, FAR, -FAR):
            self.assertEqual(judged(ONE_BIT, 0, n, [0]), [-4])
        for n in (0, 1, 127, 128):
            self.assertNotEqual(judged(ONE_BIT, 0, n, [0]), [-4])

    def test_how_many_starts(self):
        for starts in ([], [0], [0, 8, 1, 16], [0, 8, 1, 16, 3, 30], [0] * 2000):
            self.assertEqual(judged(WORKED, 0, 4, starts), [-4])
        self.assertEqual(judged(ONE_BIT, 0, 1, []), [-4])
        self.assertEqual(judged(ONE_BIT, 0, 0, []), [-4])

    def test_each_start(self):
        for number in range(5):
            for start in (-1, 1024, -1023, 2000, FAR, -FAR):
                starts = [0, 8, 1, 16, 3]
                starts[number] = start
                self.assertEqual(judged(WORKED, 0, 4, starts), [-4])
            for start in (0, 1023):
                starts = [0, 8, 1, 16, 3]
                starts[number] = start
                self.assertNotEqual(judged(WORKED, 0, 128, starts), [-4])

    def test_a_wrong_start_is_refused_though_an_earlier_leaf_has_a_fault(self):
        self.assertEqual(judged(PAIR, 0, 1, [9, 1024]), [-4])
        self.assertEqual(judged(PAIR, 0, 1, [9, 0]), [0])


class WhatTheOtherCallsAnswer(unittest.TestCase):
    def test_up_to_6_leaves(self):
        rng = random.Random(26)
        for _ in range(15):
            text = one_form(small_records(rng))
            for r in range(6):
                for w in WORDS:
                    fitted, found, ruled = ask_of(text, fit(r, w, shuffled(rng, r + 1)), least(r, w), rule(r, w))
                    bound = ruled.pop(1)
                    for span, size, *starts in (fitted, found, ruled):
                        told = ask_of(text, judge(r, w, size, starts), judge(r, w, 128, starts))
                        self.assertEqual(told, [[1, span, span - found[0], span - bound]] * 2)
                        self.assertEqual(ask_of(text, judge(r, w, size - 1, starts)), [[0]])

    def test_more_leaves(self):
        rng = random.Random(27)
        for _ in range(80):
            records = random_records(rng, 24)
            text = one_form(records)
            for r in range(len(records)):
                count = len(leaves_of(records, r))
                for w in WORDS:
                    fitted, ruled = ask_of(text, fit(r, w, shuffled(rng, count)), rule(r, w))
                    bound = ruled.pop(1)
                    for span, size, *starts in (fitted, ruled):
                        told = ask_of(text, judge(r, w, size, starts))[0]
                        self.assertEqual([told[0], told[1], told[3]], [1, span, span - bound], text)
                        self.assertEqual(told[2] == -1, count > 6)


def moved(rng, leaves, starts, size):
    """The layout with some leaves moved, often only a little; it may well have faults."""
    starts = list(starts)
    for _ in range(rng.randint(0, 2)):
        number = rng.randrange(len(starts))
        align = leaves[number][1]
        step = rng.choice([-align, align, 1, -1, 8, rng.randint(0, 40), align * rng.randint(0, 8)])
        starts[number] = min(1023, max(0, starts[number] + step))
    return starts, rng.choice([size, size, size + 1, size + 8, max(0, size - 1), 128])


class AgainstTheModel(unittest.TestCase):
    def assert_agrees(self, seed, rounds, most_leaves, counted):
        rng = random.Random(seed)
        met = {0: 0, 1: 0}
        for _ in range(rounds):
            records = random_records(rng, most_leaves)
            for r in range(len(records)):
                leaves = leaves_of(records, r)
                calls, told = [], []
                for w in WORDS:
                    span = model_least(leaves, w)[0] if counted else -1
                    for _ in range(6):
                        put = model_put(leaves, shuffled(rng, len(leaves)), rng.choice(WORDS))
                        size = -(-max(start + leaf[0] for start, leaf in zip(put, leaves)) // 8)
                        starts, n = moved(rng, leaves, put, size)
                        calls.append(judge(r, w, n, starts))
                        told.append(model_judge(leaves, w, n, starts, span))
                        met[told[-1][0]] += 1
                answers = ask_all_of(one_form(records), calls)
                if not counted and len(leaves) <= 6:
                    answers = [row[:2] + [-1] + row[3:] if row[0] == 1 else row for row in answers]
                self.assertEqual(answers, told, one_form(records))
        self.assertGreater(min(met.values()), 100)

    def test_few_leaves(self):
        self.assert_agrees(28, 40, 4, True)

    def test_many_leaves(self):
        self.assert_agrees(29, 40, 20, False)

    def test_all_layouts_of_a_few_bits(self):
        choice = ("one", [("x", ("from", 0, 3, 2)), ("y", ("from", 0, 7, 1))])
        records = [("R", [("a", choice, 1), ("b", ("from", 0, 1, 4), 1)])]
        leaves = leaves_of(records, 0)
        span = model_least(leaves, 8)[0]
        calls, told = [], []
        for tag in range(0, 9):
            for x in range(0, 9):
                for y in range(5, 9):
                    for b in range(0, 9):
                        calls.append(judge(0, 8, 1, [tag, x, y, b]))
                        told.append(model_judge(leaves, 8, 1, [tag, x, y, b], span))
        self.assertEqual(ask_all_of(one_form(records), calls), told)
