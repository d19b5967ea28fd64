"""The document's worked text and answers, as they stand."""

import unittest

from leastroom.records import answers
from tests.helper import WORKED, ask, ask_of, fit, least, load, rule


class Worked(unittest.TestCase):
    def test_load(self):
        self.assertEqual(ask(load(WORKED)), [[1, 2, 5, 2]])

    def test_fit_of_the_first_record(self):
        told = ask_of(WORKED, fit(0, 0, [0, 1, 2, 3, 4]), fit(0, 16, [4, 3, 2, 1, 0]))
        self.assertEqual(told, [[26, 4, 0, 8, 1, 16, 3], [26, 4, 7, 8, 5, 16, 0]])

    def test_least_and_rule_of_the_first_record(self):
        told = ask_of(WORKED, least(0, 0), rule(0, 0))
        self.assertEqual(told, [[26, 4, 0, 8, 1, 16, 3], [26, 26, 4, 15, 16, 24, 0, 10]])

    def test_the_second_record(self):
        self.assertEqual(ask_of(WORKED, fit(1, 0, [0, 1]), least(1, 0)), [[26, 4, 0, 16], [11, 2, 10, 0]])

    def test_all_as_one_list_of_numbers(self):
        calls = load(WORKED) + fit(0, 0, [0, 1, 2, 3, 4]) + least(1, 0) + rule(0, 0)
        told = [4, 1, 2, 5, 2, 7, 26, 4, 0, 8, 1, 16, 3, 4, 11, 2, 10, 0, 8, 26, 26, 4, 15, 16, 24, 0, 10]
        self.assertEqual(answers(calls), told)
