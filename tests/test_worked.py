"""The document's worked text and answers, as they stand."""

import unittest

from leastroom.records import answers
from tests.helper import WORKED, ask, ask_of, fit, judge, least, load, orders, rule, table, waste


class Worked(unittest.TestCase):
    def test_load(self):
        self.assertEqual(ask(load(WORKED)), [[1, 2, 5, 2]])

    def test_fit_of_the_first_record(self):
        told = ask_of(WORKED, fit(0, 0, [0, 1, 2, 3, 4]), fit(0, 16, [4, 3, 2, 1, 0]))
        self.assertEqual(told, [[26, 4, 0, 8, 1, 16, 3], [26, 4, 7, 8, 5, 16, 0]])

    def test_least_and_rule_of_the_first_record(self):
        told = ask_of(WORKED, least(0, 0), rule(0, 0))
        self.assertEqual(told, [[26, 4, 0, 8, 1, 16, 3], [26, 26, 4, 15, 16, 24, 0, 10]])

    def test_the_second_record(self):
        self.assertEqual(ask_of(WORKED, fit(1, 0, [0, 1]), least(1, 0)), [[26, 4, 0, 16], [11, 2, 10, 0]])

    def test_waste(self):
        self.assertEqual(ask_of(WORKED, waste(0, 0), waste(1, 0)), [[0, 0, 0], [0, 0, 15]])

    def test_orders(self):
        self.assertEqual(ask_of(WORKED, orders(1, 0)), [[2, 1, 1, 0]])

    def test_judge(self):
        told = ask_of(WORKED, judge(0, 0, 4, [0, 8, 1, 16, 3]), judge(0, 0, 4, [0, 8, 1, 16, 2]))
        self.assertEqual(told, [[1, 26, 0, 0], [0]])

    def test_table(self):
        self.assertEqual(ask_of(WORKED, table(0)), [[2, 26, 26, 26, 11, 11, 11]])

    def test_all_as_one_list_of_numbers(self):
        calls = load(WORKED) + fit(0, 0, [0, 1, 2, 3, 4]) + least(1, 0) + rule(0, 0)
        told = [4, 1, 2, 5, 2, 7, 26, 4, 0, 8, 1, 16, 3, 4, 11, 2, 10, 0, 8, 26, 26, 4, 15, 16, 24, 0, 10]
        self.assertEqual(answers(calls), told)
        calls = load(WORKED) + [4, 1, 0] + [5, 1, 0] + [6, 0, 0, 4, 5, 0, 8, 1, 16, 3] + [7, 0]
        told = [4, 1, 2, 5, 2, 3, 0, 0, 15, 4, 2, 1, 1, 0, 4, 1, 26, 0, 0, 7, 2, 26, 26, 26, 11, 11, 11]
        self.assertEqual(answers(calls), told)
