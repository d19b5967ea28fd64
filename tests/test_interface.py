"""The list of calls: how it is read, that it is left as it was, and that long ones end in good time."""

import random
import time
import unittest

from leastroom.records import answers
from tests.helper import (
    FAR, WORDS, WORKED, ask, fit, judge, least, load, one_form, orders, random_records, rule, split, table, waste,
)

GOOD_TIME = 20

SIX_LEAVES = (
    "a : from 0 to 200000 at 4 ; b : from 0 to 15 at 16 ; c : from 0 to 1 ; "
    "d : from 0 to 127 ; e : from 0 to 30000 at 32 ; f : from 0 to 127 at 4 ;",
    "a : many 6 from 0 to 10000 ;",
    "a : one { x : from 0 to 100 , y : maybe from 0 to 1000000 at 8 , z : from 0 to 7 at 2 } ; b : from 0 to 99 ;",
)


class Watched(list):
    """A list that tells whether anything was ever changed in it."""

    def changed(self, *_):
        raise AssertionError("the list handed in was changed")

    __setitem__ = __delitem__ = __iadd__ = __imul__ = changed
    append = extend = insert = pop = remove = clear = sort = reverse = changed


class Interface(unittest.TestCase):
    def setUp(self):
        rows = [[0, 1, 2, 3, 4], [4, 3, 2, 1, 0], []]
        self.calls = rule(0, 0) + load(WORKED)
        for w in WORDS:
            for row in rows:
                self.calls += fit(0, w, row)
            self.calls += least(0, w) + rule(1, w) + waste(0, w) + orders(1, w) + table(w)
            self.calls += judge(0, w, 4, [0, 8, 1, 16, 3]) + judge(1, w, 1, [0, 0])
        self.calls += load("record R { }") + least(FAR, -FAR) + judge(0, 0, FAR, [-FAR]) + table(FAR)

    def test_the_list_handed_in_is_as_it_was(self):
        before = list(self.calls)
        answers(self.calls)
        self.assertEqual(self.calls, before)
        self.assertEqual(answers(Watched(self.calls)), answers(before))

    def test_nothing_is_kept_from_one_time_to_the_next(self):
        first = answers(self.calls)
        self.assertEqual(answers(self.calls), first)
        self.assertEqual(answers(rule(0, 0)), [1, -1])
        self.assertEqual(answers(self.calls), first)

    def test_what_is_given_back_is_new(self):
        first = answers(self.calls)
        kept = list(first)
        first.clear()
        self.assertEqual(answers(self.calls), kept)

    def test_a_list_of_whole_numbers_is_given_back(self):
        told = answers(self.calls)
        self.assertIs(type(told), list)
        self.assertEqual({type(number) for number in told}, {int})

    def test_one_call(self):
        self.assertEqual(answers([0, 0]), [3, 0, 3, 0])
        self.assertEqual(answers([1, 0, 0, 0]), [1, -1])
        self.assertEqual(answers([2, 0, 0]), [1, -1])
        self.assertEqual(answers([3, 0, 0]), [1, -1])
        self.assertEqual(answers([4, 0, 0]), [1, -1])
        self.assertEqual(answers([5, 0, 0]), [1, -1])
        self.assertEqual(answers([6, 0, 0, 0, 0]), [1, -1])
        self.assertEqual(answers([7, 0]), [1, -1])

    def test_counts_stand_before_rows(self):
        text = "record R { a : from 0 to 1 ; }"
        self.assertEqual(answers(load(text) + [1, 0, 0, 1, 0]), [3, 1, 1, 1, 3, 1, 1, 0])
        self.assertEqual(answers(load(text) + [1, 0, 0, 0] + [2, 0, 0]), [3, 1, 1, 1, 1, -4, 3, 1, 1, 0])
        self.assertEqual(answers(load(text) + [6, 0, 0, 1, 1, 3] + [7, 0]), [3, 1, 1, 1, 4, 1, 4, 3, 3, 4, 1, 1, 1, 1])
        self.assertEqual(answers(load(text) + [6, 0, 0, 1, 0] + [4, 0, 0]), [3, 1, 1, 1, 1, -4, 3, 0, 0, 0])
        self.assertEqual(answers(load(text) + [5, 0, 0] + [6, 0, 0, 0, 1, 0]), [3, 1, 1, 1, 3, 1, 1, 0, 1, 0])

    def test_calls_in_any_order(self):
        told = ask(least(0, 0), load(WORKED), rule(1, 0), least(1, 0), load(""), fit(1, 0, [0, 1]), load(WORKED))
        self.assertEqual(
            told, [[-1], [1, 2, 5, 2], [11, 11, 2, 10, 0], [11, 2, 10, 0], [0, 3, 0], [26, 4, 0, 16], [1, 2, 5, 2]]
        )


def random_call(rng, texts):
    """Any of the eight calls, with numbers that are sometimes right."""
    numbers = [0, 0, 1, 2, 5, -1, FAR, -FAR, rng.randint(-FAR, FAR)]
    r = rng.choice(numbers)
    w = rng.choice(list(WORDS) * 3 + numbers)
    count = rng.choice([0, 1, 2, 3, 5, 5, 5, 30])
    row = rng.sample(range(count), count) if rng.random() < 0.7 else [rng.choice(numbers) for _ in range(count)]
    starts = [rng.randint(-1, 1024) for _ in row] if rng.random() < 0.3 else [32 * number for number in row]
    n = rng.choice([0, 1, 4, 32, 128, 128, 129, -1] + numbers)
    calls = [load(rng.choice(texts)), fit(r, w, row), least(r, w), rule(r, w), waste(r, w), orders(r, w)]
    return rng.choice(calls + [judge(r, w, n, starts), table(w)])


class AnyList(unittest.TestCase):
    def setUp(self):
        rng = random.Random(32)
        self.lists = []
        for _ in range(60):
            texts = [WORKED, "record R { }", one_form(random_records(rng, 6)), one_form(random_records(rng, 24))]
            self.lists.append([random_call(rng, texts) for _ in range(rng.randint(1, 60))])

    def test_each_call_answers_one_list(self):
        met = set()
        for calls in self.lists:
            told = split(answers([number for call in calls for number in call]))
            self.assertEqual(len(told), len(calls))
            for call, answer in zip(calls, told):
                met.add((call[0], answer[0] if answer[0] < 1 else 1))
                if answer[0] < 0:
                    self.assertEqual(len(answer), 1)
                elif call[0] not in (6, 7):
                    self.assertGreaterEqual(min(answer), 0)
                else:
                    self.assertGreaterEqual(min(answer), -1)
        self.assertLessEqual({(call, 1) for call in (0, 1, 2, 3, 5, 6, 7)} | {(6, 0), (6, -4)}, met)

    def test_a_call_answers_the_same_whatever_was_asked_before(self):
        for calls in self.lists:
            told = ask(*calls)
            loads = [call for call in calls if call[0] == 0]
            loaded = 0
            for call, answer in zip(calls, told):
                loaded += call[0] == 0
                if call[0] != 0:
                    self.assertEqual(ask(*loads[:loaded], call)[-1], answer)


class GoodTime(unittest.TestCase):
    def timed(self, calls):
        self.assertLessEqual(len(calls), 17000)
        begun = time.monotonic()
        told = answers(calls)
        self.assertLess(time.monotonic() - begun, GOOD_TIME)
        return told

    def test_60_searches(self):
        for fields in SIX_LEAVES:
            text = "record R { " + fields + " }"
            for ask_for in (least, waste, orders):
                calls = load(text)
                for number in range(59):
                    calls += ask_for(0, WORDS[number % 5])
                self.timed(calls)
            calls = load(text)
            for number in range(59):
                calls += judge(0, WORDS[number % 5], 128, [32, 64, 96, 128, 160, 192])
            self.assertEqual(self.timed(calls)[4:6], [4, 1])

    def test_60_tables_of_6_records(self):
        for fields in SIX_LEAVES:
            calls = load(" ".join(["record R" + str(r) + " { " + fields + " }" for r in range(6)]))
            for number in range(59):
                calls += table(WORDS[number % 5])
            self.timed(calls)

    def test_60_layouts_of_24_leaves(self):
        for shape in ("from 0 to 1000000 at 32", "from 0 to 31", "one { x : from 0 to 100 , y : from 0 to 1000000 }"):
            times = "many 8 " if shape.startswith("one") else "many 8 many 3 "
            calls = load("record R { a : " + times + shape + " ; }")
            for number in range(58):
                w = WORDS[number % 5]
                calls += rule(0, w) if number % 2 else fit(0, w, list(range(24)))
            calls += fit(0, 8, list(range(2000)))
            self.timed(calls)

    def test_long_texts(self):
        text = " ".join(["record R" + str(r) + " { a : many 8 many 3 maybe Q ; }" for r in range(100)])
        for row in (text[:4096], "#" * 4096, "9" * 4096, "x" * 4096, "-" * 4096, "record" + " {" * 2000):
            self.timed(load(row.ljust(4096)) * 4)
        self.timed(load("x" * 8192) * 2)

    def test_full_texts(self):
        fields = "".join(["f" + str(k) + ":from 0to 1;" for k in range(24)])
        text = "".join(["record R" + str(r) + "{" + fields + "}" for r in range(6)])
        self.assertLessEqual(len(text), 4096)
        calls = load(text.ljust(4096)) * 4
        for number in range(56):
            calls += rule(number % 6, 8)
        told = self.timed(calls)
        self.assertEqual(told[:9], [8, 1, 6] + [24] * 6)

    def test_long_lists(self):
        calls = load(WORKED)
        for number in range(8):
            calls += fit(0, 0, [FAR - number] * 2000)
        calls += rule(0, 0) * 51
        self.assertEqual(self.timed(calls)[5:21], [1, -4] * 8)
        calls = load(WORKED.ljust(805))
        for number in range(8):
            calls += judge(0, 0, 128, [number] * 2000)
        calls += orders(0, 0) * 51
        self.assertEqual(len(calls), 17000)
        self.assertEqual(self.timed(calls)[5:21], [1, -4] * 8)

    def test_all_calls_over_many_texts(self):
        text = "".join(["record R" + str(r) + "{a:many 6from 0to 999" + str(r) + ";}" for r in range(6)])
        calls = (load(text) + table(0) + table(8) + table(16) + orders(5, 64)) * 12
        self.timed(calls)
