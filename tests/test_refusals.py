"""Each refusal, and that the first one that applies is told."""

import unittest

from tests.helper import FAR, WORDS, WORKED, ask, fit, judge, least, load, orders, rule, table, waste

SEVEN = "record R { a : many 7 from 0 to 1 ; } record Q { b : from 0 to 1 ; }"
NO_RECORD = (-1, 2, 3, -2, 5, 6, 1000, FAR - 1, FAR, -FAR, 2 ** 32, 2 ** 59)
NO_WORD = (-1, 1, 2, 4, 7, 9, 15, 24, 33, 63, 65, 128, -8, -64, FAR, -FAR, 10 ** 18 - 64)
NO_SIZE = (-1, 129, 1024, FAR, -FAR)


def each_of_record(r, w):
    """Every call with a record, each with rows and numbers that are wrong for any record, too."""
    calls = [fit(r, w, []), fit(r, w, [0, 0]), fit(r, w, [FAR, -FAR]), least(r, w), rule(r, w), waste(r, w)]
    calls += [orders(r, w), judge(r, w, 1, []), judge(r, w, 128, [0] * 30), judge(r, w, 0, [-1])]
    return calls + [judge(r, w, n, [0]) for n in NO_SIZE]


class Refusals(unittest.TestCase):
    def assert_refused(self, text, refusal, *calls):
        told = ask(load(text), *calls)[1:]
        self.assertEqual(told, [[refusal]] * len(calls))

    def test_no_records_before_all_else(self):
        for r in (0, 1, -1, FAR, -FAR):
            for w in (0, 8, 3, FAR, -FAR):
                calls = each_of_record(r, w) + [table(w)]
                self.assertEqual(ask(*calls), [[-1]] * len(calls))

    def test_no_such_record(self):
        for r in NO_RECORD:
            for w in WORDS:
                self.assert_refused(WORKED, -2, *each_of_record(r, w))
                self.assert_refused(SEVEN, -2, *each_of_record(r, w))

    def test_records_that_there_are(self):
        for r in (0, 1):
            told = ask(load(WORKED), *each_of_record(r, 0))
            self.assertNotIn([-2], told)

    def test_no_such_record_before_no_such_word(self):
        for r in NO_RECORD:
            for w in NO_WORD:
                self.assert_refused(WORKED, -2, *each_of_record(r, w))

    def test_no_such_word(self):
        for w in NO_WORD:
            self.assert_refused(WORKED, -3, fit(0, w, [0, 1, 2, 3, 4]), least(1, w), rule(1, w), waste(0, w))
            self.assert_refused(WORKED, -3, orders(1, w), judge(0, w, 4, [0, 8, 1, 16, 3]), table(w))

    def test_no_such_word_before_rows_sizes_and_leaves(self):
        for w in NO_WORD:
            self.assert_refused(WORKED, -3, *each_of_record(0, w), *each_of_record(1, w))
            self.assert_refused(SEVEN, -3, *each_of_record(0, w), table(w))

    def test_no_such_order(self):
        for w in WORDS:
            self.assert_refused(WORKED, -4, fit(0, w, []), fit(1, w, [0]), fit(1, w, [1, 1]), fit(1, w, [FAR, -FAR]))

    def test_no_such_layout(self):
        for w in WORDS:
            right = [0, 8, 1, 16, 3]
            self.assert_refused(WORKED, -4, *[judge(0, w, n, right) for n in NO_SIZE])
            self.assert_refused(WORKED, -4, *[judge(1, w, 4, row) for row in ([], [0], [0, 16, 8], right)])
            self.assert_refused(WORKED, -4, *[judge(1, w, 4, [0, start]) for start in (-1, 1024, FAR, -FAR)])
            self.assert_refused(WORKED, -4, *[judge(1, w, 4, [start, 16]) for start in (-1, 1024, FAR, -FAR)])

    def test_more_leaves_than_are_tried(self):
        for w in WORDS:
            self.assert_refused(SEVEN, -6, least(0, w), waste(0, w), orders(0, w))
            told = ask(load(SEVEN), rule(0, w), fit(0, w, [6, 5, 4, 3, 2, 1, 0]), least(1, w))
            self.assertEqual(told[1:], [[7, 7, 1, 0, 1, 2, 3, 4, 5, 6], [7, 1, 6, 5, 4, 3, 2, 1, 0], [1, 1, 0]])
            told = ask(load(SEVEN), waste(1, w), orders(1, w), table(w), judge(0, w, 1, [0, 1, 2, 3, 4, 5, 7]))
            self.assertEqual(told[1:], [[0, 0, 0], [1, 1, 0], [2, 7, 7, -1, 1, 1, 1], [1, 8, -1, 1]])

    def test_a_refusal_changes_nothing(self):
        refused = [fit(0, 0, [9]), least(9, 0), rule(0, 9), fit(-FAR, FAR, []), waste(2, 0), orders(0, 1)]
        refused += [judge(0, 0, -1, []), judge(0, 0, 4, [0]), table(7)]
        asked = [fit(0, 16, [4, 3, 2, 1, 0]), least(0, 0), rule(0, 0), waste(1, 8), orders(0, 8), table(16)]
        told = ask(load(WORKED), *asked)[1:]
        self.assertEqual(ask(load(WORKED), *refused, *asked)[1 + len(refused):], told)
        self.assertEqual(ask(*refused, load(WORKED), *asked)[1 + len(refused):], told)
