import copy
import unittest

import oracle
from anyspan.errors import NoRow, NoRules
from anyspan.rules import are_rules, is_row, keeps


class AreRules(unittest.TestCase):
    def test_every_single_rule(self):
        for span in range(-1, 11):
            for least in range(-1, 11):
                for most in range(-1, 11):
                    right = 1 <= span <= 8 and 0 <= least <= most <= span
                    self.assertIs(are_rules(((span, least, most),)), right, (span, least, most))

    def test_from_one_to_five_rules(self):
        rules = ((1, 0, 1), (2, 0, 1), (4, 1, 3), (5, 0, 5), (7, 3, 3), (8, 2, 6))
        for many in range(1, 6):
            self.assertIs(are_rules(rules[:many]), True)
            self.assertIs(are_rules(rules[6 - many:]), True)
        self.assertIs(are_rules(()), False)
        self.assertIs(are_rules(rules), False)

    def test_rules_that_clash_are_rules(self):
        self.assertIs(are_rules(((2, 1, 1), (3, 2, 2))), True)
        self.assertIs(are_rules(((1, 0, 0), (2, 2, 2))), True)

    def test_spans_rise(self):
        for one in range(1, 9):
            for other in range(1, 9):
                self.assertIs(are_rules(((one, 0, 1), (other, 0, 1))), one < other)
                self.assertIs(are_rules(((one, 0, 0), (other, 1, 1))), one < other)

    def test_what_is_none(self):
        for thing in oracle.NO_RULES + oracle.NO_ROWS + oracle.NONSENSE:
            self.assertIs(are_rules(thing), False, thing)

    def test_truths_are_no_numbers(self):
        rule = (1, 0, 1)
        for at in range(3):
            wrong = rule[:at] + (bool(rule[at]),) + rule[at + 1:]
            self.assertIs(are_rules((wrong,)), False)


class IsRow(unittest.TestCase):
    def test_lengths(self):
        for length in list(range(10)) + [119, 120]:
            for place in (0, 1):
                self.assertIs(is_row((place,) * length), True)
        for length in (121, 122, 240, 400):
            for place in (0, 1):
                self.assertIs(is_row((place,) * length), False)

    def test_all_short_rows(self):
        for length in range(6):
            for row in oracle.rows_of(length):
                self.assertIs(is_row(row), True)
                self.assertIs(is_row(list(row)), False)

    def test_one_wrong_place(self):
        for wrong in (2, -1, True, False, None, "0", "", (), (0,), [1], 10 ** 39):
            for at in (0, 3, 119):
                row = (0, 1) * 60
                self.assertIs(is_row(row[:at] + (wrong,) + row[at + 1:]), False, wrong)
            self.assertIs(is_row((wrong,)), False, wrong)

    def test_what_is_none(self):
        for thing in oracle.NO_ROWS + oracle.NONSENSE:
            self.assertIs(is_row(thing), False, thing)
        for thing in oracle.NO_RULES:
            # (1, 0, 1) is no rules, but a row; so is ().
            self.assertIs(is_row(thing), thing in ((), (1, 0, 1)), thing)


class Keeps(unittest.TestCase):
    def test_against_counting(self):
        for rules in oracle.rules_up_to(4, 2):
            for length in range(7):
                for row in oracle.rows_of(length):
                    self.assertIs(keeps(rules, row), oracle.does_keep(rules, row), (rules, row))

    def test_every_rule_against_counting(self):
        rows = [row for length in (7, 8, 9) for row in oracle.rows_of(length)[::5]]
        for rules in oracle.rules_up_to(8, 1):
            for row in rows:
                self.assertIs(keeps(rules, row), oracle.does_keep(rules, row), (rules, row))

    def test_shorter_than_the_span(self):
        self.assertIs(keeps(((8, 8, 8),), ()), True)
        self.assertIs(keeps(((8, 8, 8),), (0,) * 7), True)
        self.assertIs(keeps(((8, 0, 0),), (1,) * 7), True)
        self.assertIs(keeps(((1, 1, 1),), ()), True)

    def test_as_long_as_the_span(self):
        self.assertIs(keeps(((8, 8, 8),), (0,) * 8), False)
        self.assertIs(keeps(((8, 8, 8),), (1,) * 8), True)
        self.assertIs(keeps(((8, 0, 7),), (1,) * 8), False)
        self.assertIs(keeps(((3, 1, 2),), (0, 1, 0)), True)
        self.assertIs(keeps(((3, 1, 2),), (0, 0, 0)), False)
        self.assertIs(keeps(((3, 1, 2),), (1, 1, 1)), False)

    def test_only_one_stretch_is_broken(self):
        rules = ((3, 1, 2),)
        even = (1, 0) * 60
        self.assertIs(keeps(rules, even), True)
        self.assertIs(keeps(rules, (0, 0, 0) + even[1:100]), False)
        self.assertIs(keeps(rules, even[:100] + (1, 1)), True)
        self.assertIs(keeps(rules, even[:101] + (1, 1)), False)
        self.assertIs(keeps(rules, (1, 1, 1, 0, 1, 0)), False)
        self.assertIs(keeps(rules, (1, 0, 1, 0, 0, 0)), False)
        self.assertIs(keeps(rules, (1, 0, 0, 0, 1, 0)), False)
        self.assertIs(keeps(((1, 0, 0),), (0,) * 119 + (1,)), False)
        self.assertIs(keeps(((1, 0, 0),), (1,) + (0,) * 119), False)

    def test_one_of_several_is_broken(self):
        row = (1, 1, 0, 1, 1, 0, 1, 1, 0)
        good = ((1, 0, 1), (2, 1, 2), (3, 2, 2), (5, 3, 4), (6, 4, 4))
        self.assertIs(keeps(good, row), True)
        wrong = ((1, 1, 1), (2, 0, 1), (3, 1, 1), (5, 4, 4), (6, 5, 6))
        for at in range(5):
            self.assertIs(keeps(good[:at] + (wrong[at],) + good[at + 1:], row), False)

    def test_exchanged_and_turned_about(self):
        for rules in oracle.rules_up_to(4, 2)[::3]:
            for row in oracle.rows_of(6):
                told = keeps(rules, row)
                self.assertIs(keeps(oracle.exchanged(rules), oracle.flipped(row)), told)
                self.assertIs(keeps(rules, row[::-1]), told)

    def test_refusals(self):
        for thing in oracle.NO_RULES + oracle.NONSENSE:
            with self.assertRaises(NoRules):
                keeps(thing, (0, 1))
            with self.assertRaises(NoRules):
                keeps(thing, [0, 1])
        for thing in oracle.NO_ROWS + oracle.NONSENSE:
            with self.assertRaises(NoRow):
                keeps(((2, 0, 1),), thing)
            with self.assertRaises(NoRules):
                keeps([(2, 0, 1)], thing)


class Everything(unittest.TestCase):
    def test_nothing_is_changed(self):
        for things in (oracle.NO_RULES, oracle.NO_ROWS, oracle.NONSENSE):
            before = copy.deepcopy(things)
            for thing in things:
                self.assertIs(are_rules(thing), are_rules(thing))
                self.assertIs(is_row(thing), is_row(thing))
            self.assertEqual(repr(things), repr(before))


if __name__ == "__main__":
    unittest.main()
