"""The list of calls: how it is read, that it is left as it was, and that long ones end in good time."""

import time
import unittest

from leastroom.records import answers
from tests.helper import FAR, WORDS, WORKED, ask, fit, least, load, rule

GOOD_TIME = 20


class Watched(list):
    """A list that tells whether anything was ever changed in it."""

    def changed(self, *_):
        raise AssertionError("the list handed in was changed")

    __setitem__ = __delitem__ = __iadd__ = __imul__ = changed
    append = extend = insert = pop = remove = clear = sort = reverse = changed


class Interface(unittest.TestCase):
    def setUp(self):
        orders = [[0, 1, 2, 3, 4], [4, 3, 2, 1, 0], [0], []]
        self.calls = rule(0, 0) + load(WORKED)
        for w in WORDS:
            for order in orders:
                self.calls += fit(0, w, order)
            self.calls += least(0, w) + rule(1, w)
        self.calls += load("record R { }") + least(FAR, -FAR)

    def test_the_list_handed_in_is_as_it_was(self):
        before = list(self.calls)
        answers(self.calls)
        self.assertEqual(self.calls, before)
        self.assertEqual(answers(Watched(self.calls)), answers(before))

    def test_nothing_is_kept_from_one_time_to_the_next(self):
        first = answers(self.calls)
        self.assertEqual(answers(self.calls), first)
        self.assertEqual(answers(rule(0, 0)), [1, -1])
        self.assertEqual(answers(self.calls), first)

    def test_what_is_given_back_is_new(self):
        first = answers(self.calls)
        kept = list(first)
        first.clear()
        self.assertEqual(answers(self.calls), kept)

    def test_a_list_of_whole_numbers_is_given_back(self):
        told = answers(self.calls)
        self.assertIs(type(told), list)
        self.assertEqual({type(number) for number in told}, {int})

    def test_one_call(self):
        self.assertEqual(answers([0, 0]), [3, 0, 3, 0])
        self.assertEqual(answers([1, 0, 0, 0]), [1, -1])
        self.assertEqual(answers([2, 0, 0]), [1, -1])
        self.assertEqual(answers([3, 0, 0]), [1, -1])

    def test_counts_stand_before_rows(self):
        text = "record R { a : from 0 to 1 ; }"
        self.assertEqual(answers(load(text) + [1, 0, 0, 1, 0]), [3, 1, 1, 1, 3, 1, 1, 0])
        self.assertEqual(answers(load(text) + [1, 0, 0, 0] + [2, 0, 0]), [3, 1, 1, 1, 1, -4, 3, 1, 1, 0])

    def test_calls_in_any_order(self):
        told = ask(least(0, 0), load(WORKED), rule(1, 0), least(1, 0), load(""), fit(1, 0, [0, 1]), load(WORKED))
        self.assertEqual(
            told, [[-1], [1, 2, 5, 2], [11, 11, 2, 10, 0], [11, 2, 10, 0], [0, 3, 0], [26, 4, 0, 16], [1, 2, 5, 2]]
        )


class GoodTime(unittest.TestCase):
    def timed(self, calls):
        self.assertLessEqual(len(calls), 17000)
        begun = time.monotonic()
        told = answers(calls)
        self.assertLess(time.monotonic() - begun, GOOD_TIME)
        return told

    def test_60_searches(self):
        some = "a : from 0 to 200000 at 4 ; b : from 0 to 15 at 16 ; c : from 0 to 1 ;"
        more = "d : from 0 to 127 ; e : from 0 to 30000 at 32 ; f : from 0 to 127 at 4 ;"
        calls = load("record R { " + some + more + " }")
        for number in range(59):
            calls += least(0, WORDS[number % 5])
        self.timed(calls)

    def test_60_layouts_of_24_leaves(self):
        for shape in ("from 0 to 1000000 at 32", "from 0 to 31", "one { x : from 0 to 100 , y : from 0 to 1000000 }"):
            times = "many 8 " if shape.startswith("one") else "many 8 many 3 "
            calls = load("record R { a : " + times + shape + " ; }")
            for number in range(58):
                w = WORDS[number % 5]
                calls += rule(0, w) if number % 2 else fit(0, w, list(range(24)))
            calls += fit(0, 8, list(range(2000)))
            self.timed(calls)

    def test_long_texts(self):
        text = " ".join(["record R" + str(r) + " { a : many 8 many 3 maybe Q ; }" for r in range(100)])
        for row in (text[:4096], "#" * 4096, "9" * 4096, "x" * 4096, "-" * 4096, "record" + " {" * 2000):
            self.timed(load(row.ljust(4096)) * 4)
        self.timed(load("x" * 8192) * 2)

    def test_full_texts(self):
        fields = "".join(["f" + str(k) + ":from 0to 1;" for k in range(24)])
        text = "".join(["record R" + str(r) + "{" + fields + "}" for r in range(6)])
        self.assertLessEqual(len(text), 4096)
        calls = load(text.ljust(4096)) * 4
        for number in range(56):
            calls += rule(number % 6, 8)
        told = self.timed(calls)
        self.assertEqual(told[:9], [8, 1, 6] + [24] * 6)

    def test_long_lists(self):
        calls = load(WORKED)
        for number in range(8):
            calls += fit(0, 0, [FAR - number] * 2000)
        calls += rule(0, 0) * 51
        self.assertEqual(self.timed(calls)[5:21], [1, -4] * 8)
