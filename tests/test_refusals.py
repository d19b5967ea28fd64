"""Each refusal, and that the first one that applies is told."""

import unittest

from tests.helper import FAR, WORDS, WORKED, ask, fit, least, load, rule

SEVEN = "record R { a : many 7 from 0 to 1 ; } record Q { b : from 0 to 1 ; }"
NO_RECORD = (-1, 2, 3, -2, 5, 6, 1000, FAR - 1, FAR, -FAR, 2 ** 32, 2 ** 59)
NO_WORD = (-1, 1, 2, 4, 7, 9, 15, 24, 33, 63, 65, 128, -8, -64, FAR, -FAR, 10 ** 18 - 64)


class Refusals(unittest.TestCase):
    def assert_refused(self, text, refusal, *calls):
        told = ask(load(text), *calls)[1:]
        self.assertEqual(told, [[refusal]] * len(calls))

    def test_no_records_before_all_else(self):
        for r in (0, 1, -1, FAR, -FAR):
            for w in (0, 8, 3, FAR, -FAR):
                told = ask(fit(r, w, []), fit(r, w, [0]), fit(r, w, [FAR, -FAR]), least(r, w), rule(r, w))
                self.assertEqual(told, [[-1]] * 5)

    def test_no_such_record(self):
        for r in NO_RECORD:
            self.assert_refused(WORKED, -2, fit(r, 0, [0]), least(r, 0), rule(r, 0))
            self.assert_refused(SEVEN, -2, least(r, 8))

    def test_no_such_record_before_no_such_word(self):
        for r in NO_RECORD:
            for w in NO_WORD:
                self.assert_refused(WORKED, -2, fit(r, w, [0, 0]), least(r, w), rule(r, w))

    def test_no_such_word(self):
        for w in NO_WORD:
            self.assert_refused(WORKED, -3, fit(0, w, [0, 1, 2, 3, 4]), least(1, w), rule(1, w))

    def test_no_such_word_before_the_order_and_the_leaves(self):
        for w in NO_WORD:
            self.assert_refused(WORKED, -3, fit(0, w, []), fit(0, w, [5]), fit(1, w, [FAR, -FAR]))
            self.assert_refused(SEVEN, -3, least(0, w))

    def test_no_such_order(self):
        for w in WORDS:
            self.assert_refused(WORKED, -4, fit(0, w, []), fit(1, w, [0]), fit(1, w, [1, 1]), fit(1, w, [FAR, -FAR]))

    def test_more_leaves_than_are_tried(self):
        for w in WORDS:
            self.assert_refused(SEVEN, -6, least(0, w))
            told = ask(load(SEVEN), rule(0, w), fit(0, w, [6, 5, 4, 3, 2, 1, 0]), least(1, w))
            self.assertEqual(told[1:], [[7, 7, 1, 0, 1, 2, 3, 4, 5, 6], [7, 1, 6, 5, 4, 3, 2, 1, 0], [1, 1, 0]])

    def test_a_refusal_changes_nothing(self):
        refused = [fit(0, 0, [9]), least(9, 0), rule(0, 9), fit(-FAR, FAR, [])]
        asked = [fit(0, 16, [4, 3, 2, 1, 0]), least(0, 0), rule(0, 0)]
        self.assertEqual(ask(load(WORKED), *refused, *asked)[5:], ask(load(WORKED), *asked)[1:])
        self.assertEqual(ask(*refused, load(WORKED), *asked)[5:], ask(load(WORKED), *asked)[1:])
