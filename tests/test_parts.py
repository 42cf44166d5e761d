import math
import unittest
from fractions import Fraction

import oracle
from anyspan.errors import NoNumber, NoPart, NoRules
from anyspan.parts import clash, even_row, longest, longest_row, parts
from anyspan.rules import is_row, keeps

FIVE = ((4, 1, 3), (5, 2, 3), (6, 2, 3), (7, 3, 3), (8, 3, 4))
GREAT = 10 ** 40


def fits(part, rules):
    """Whether a fraction is in the parts of all rules."""
    return all(Fraction(least, span) <= Fraction(*part) <= Fraction(most, span) for span, least, most in rules)


class Parts(unittest.TestCase):
    def test_against_fractions(self):
        for rules in oracle.rules_up_to(8, 2) + oracle.rules_up_to(4, 4)[::3]:
            self.assertEqual(parts(rules), oracle.common_parts(rules), rules)

    def test_kinds(self):
        told = parts(((5, 2, 3),))
        self.assertIs(type(told), tuple)
        for part in told:
            self.assertIs(type(part), tuple)
            for number in part:
                self.assertIs(type(number), int)

    def test_one_number_in_common(self):
        self.assertEqual(parts(((2, 1, 1),)), ((1, 2), (1, 2)))
        self.assertEqual(parts(((3, 0, 1), (6, 2, 4))), ((1, 3), (1, 3)))
        self.assertEqual(parts(FIVE), ((3, 7), (3, 7)))
        self.assertEqual(parts(((4, 2, 2), (6, 3, 3), (8, 4, 4))), ((1, 2), (1, 2)))

    def test_many_in_common(self):
        self.assertEqual(parts(((6, 2, 4),)), ((1, 3), (2, 3)))
        self.assertEqual(parts(((8, 2, 6),)), ((1, 4), (3, 4)))
        self.assertEqual(parts(((5, 2, 3), (7, 2, 5))), ((2, 5), (3, 5)))
        self.assertEqual(parts(((5, 1, 3), (7, 3, 5), (8, 0, 8))), ((3, 7), (3, 5)))

    def test_nought_and_one(self):
        for span in range(1, 9):
            self.assertEqual(parts(((span, 0, span),)), ((0, 1), (1, 1)))
            self.assertEqual(parts(((span, 0, 0),)), ((0, 1), (0, 1)))
            self.assertEqual(parts(((span, span, span),)), ((1, 1), (1, 1)))

    def test_none_in_common(self):
        self.assertIsNone(parts(((2, 1, 1), (3, 2, 2))))
        self.assertIsNone(parts(((1, 0, 0), (8, 1, 8))))
        self.assertIsNone(parts(((7, 0, 3), (8, 4, 8))))

    def test_ends_that_meet(self):
        self.assertEqual(parts(((4, 0, 2), (6, 3, 6))), ((1, 2), (1, 2)))
        self.assertEqual(parts(((4, 2, 4), (6, 0, 3))), ((1, 2), (1, 2)))


class Clash(unittest.TestCase):
    def test_against_all_pairs(self):
        for rules in oracle.rules_up_to(8, 2) + oracle.rules_up_to(4, 4)[::3] + oracle.rules_of_spans((1, 3, 5))[::4]:
            wanted = oracle.clashes(rules)
            told = clash(rules)
            self.assertEqual(told, wanted[0] if wanted else None, rules)
            self.assertEqual(told is None, parts(rules) is not None, rules)

    def test_which_stands_first(self):
        self.assertEqual(clash(((2, 0, 0), (3, 1, 1))), ((3, 1, 1), (2, 0, 0)))
        self.assertEqual(clash(((2, 1, 1), (3, 0, 0))), ((2, 1, 1), (3, 0, 0)))

    def test_the_first_of_several(self):
        self.assertEqual(clash(((1, 1, 1), (2, 0, 0), (3, 0, 1))), ((1, 1, 1), (2, 0, 0)))
        self.assertEqual(clash(((1, 0, 0), (2, 1, 1), (3, 2, 2))), ((2, 1, 1), (1, 0, 0)))
        self.assertEqual(clash(((1, 0, 0), (2, 2, 2), (3, 1, 1))), ((2, 2, 2), (1, 0, 0)))
        self.assertEqual(clash(((1, 0, 1), (2, 0, 1), (3, 2, 2), (4, 1, 2), (5, 5, 5))), ((3, 2, 2), (2, 0, 1)))

    def test_none(self):
        self.assertIsNone(clash(FIVE))
        self.assertIsNone(clash(((4, 0, 2), (6, 3, 6))))
        self.assertIsNone(clash(((8, 8, 8),)))


class EvenRow(unittest.TestCase):
    def test_against_whole_numbers_below(self):
        for bottom in range(1, 20):
            for top in range(bottom + 1):
                if math.gcd(top, bottom) == 1:
                    part = Fraction(top, bottom)
                    wanted = tuple(
                        1 if math.floor((at + 1) * part) > math.floor(at * part) else 0 for at in range(120)
                    )
                    for many in (0, 1, 2, 7, 50, 119, 120):
                        self.assertEqual(even_row((top, bottom), many), wanted[:many], (top, bottom))

    def test_plain_rows(self):
        self.assertEqual(even_row((1, 2), 5), (0, 1, 0, 1, 0))
        self.assertEqual(even_row((2, 5), 10), (0, 0, 1, 0, 1, 0, 0, 1, 0, 1))
        self.assertEqual(even_row((2, 3), 6), (0, 1, 1, 0, 1, 1))
        self.assertEqual(even_row((0, 1), 4), (0, 0, 0, 0))
        self.assertEqual(even_row((1, 1), 4), (1, 1, 1, 1))
        for many in range(121):
            self.assertEqual(even_row((0, 1), many), (0,) * many)
            self.assertEqual(even_row((1, 1), many), (1,) * many)
            self.assertEqual(len(even_row((3, 7), many)), many)

    def test_no_places(self):
        for part in ((0, 1), (1, 1), (1, 2), (1, GREAT), (GREAT - 1, GREAT)):
            self.assertEqual(even_row(part, 0), ())

    def test_great_bottoms(self):
        self.assertEqual(even_row((1, GREAT), 120), (0,) * 120)
        self.assertEqual(even_row((GREAT - 1, GREAT), 120), (0,) + (1,) * 119)
        # just below and just above a half
        below, above = (GREAT // 2 - 1, GREAT), (GREAT // 2 + 1, GREAT)
        self.assertEqual(math.gcd(*below), 1)
        self.assertEqual(even_row(below, 120), (0, 0) + (1, 0) * 59)
        self.assertEqual(even_row(above, 120), (0, 1) * 60)
        third = ((GREAT - 1) // 3, GREAT)
        self.assertEqual(math.gcd(*third), 1)
        self.assertEqual(even_row(third, 120), (0, 0, 0) + (1, 0, 0) * 39)

    def test_kinds(self):
        row = even_row((3, 8), 120)
        self.assertTrue(is_row(row))
        self.assertIs(type(row), tuple)
        for place in row:
            self.assertIs(type(place), int)

    def check_keeps(self, part, rules):
        self.assertTrue(fits(part, rules))
        row = even_row(part, 120)
        for many in range(121):
            self.assertEqual(even_row(part, many), row[:many])
        self.assertTrue(oracle.does_keep(rules, row), (part, rules))
        for many in (0, 1, 7, 8, 9, 60, 119):
            self.assertTrue(keeps(rules, even_row(part, many)))

    def test_keeps_all_rules_by_any_number_in_common(self):
        for rules in oracle.rules_up_to(8, 2)[::37] + oracle.rules_of_spans((2, 3, 5))[::5] + [FIVE]:
            told = parts(rules)
            if told is None:
                continue
            low, high = Fraction(*told[0]), Fraction(*told[1])
            for number in (low, high, (low + high) / 2, (2 * low + high) / 3):
                self.check_keeps(oracle.told_as(number), rules)

    def test_keeps_all_rules_by_a_great_bottom(self):
        rules = ((3, 1, 2), (5, 2, 3), (8, 3, 5))
        self.assertEqual(parts(rules), ((2, 5), (3, 5)))
        self.check_keeps((GREAT * 2 // 5 + 1, GREAT), rules)
        self.check_keeps((GREAT * 3 // 5 - 1, GREAT), rules)
        self.check_keeps((GREAT // 2 + 1, GREAT), rules)

    def test_breaks_a_rule_by_other_numbers(self):
        self.assertFalse(keeps(((5, 2, 3),), even_row((GREAT * 2 // 5 - 1, GREAT), 120)))
        self.assertFalse(keeps(((5, 2, 3),), even_row((2, 3), 120)))

    def test_no_part(self):
        for thing in oracle.NO_PARTS + oracle.NONSENSE:
            for many in (0, 5, 120, -1, 121, None, True, "many"):
                with self.assertRaises(NoPart, msg=repr(thing)):
                    even_row(thing, many)

    def test_parts_at_the_limits(self):
        for part in ((0, 1), (1, 1), (1, 2), (1, GREAT), (GREAT - 1, GREAT), (GREAT - 2, GREAT - 1)):
            self.assertEqual(len(even_row(part, 3)), 3)

    def test_no_number(self):
        for thing in oracle.NO_NUMBERS:
            for part in ((0, 1), (1, 1), (2, 5)):
                with self.assertRaises(NoNumber, msg=repr(thing)):
                    even_row(part, thing)


class Longest(unittest.TestCase):
    def check(self, rules):
        rows = oracle.longest_rows(rules)
        many, row = longest(rules), longest_row(rules)
        if rows is None:
            self.assertIsNone(many, rules)
            self.assertIsNone(row, rules)
            self.assertIsNone(oracle.clashes(rules) or None)
            self.assertIsNotNone(parts(rules))
        else:
            self.assertEqual(many, len(rows[0]), rules)
            self.assertEqual(row, min(rows), rules)
            self.assertTrue(keeps(rules, row))
            self.check_bound(rules, many)

    def check_bound(self, rules, many):
        for one, other in oracle.clashes(rules):
            bound = one[0] + other[0] - math.gcd(one[0], other[0])
            self.assertLess(many, bound, rules)
            self.assertLess(longest(tuple(sorted((one, other)))), bound)

    def test_against_all_rows(self):
        for rules in oracle.rules_up_to(4, 2) + oracle.rules_up_to(3, 3):
            self.check(rules)

    def test_long_spans_against_all_rows(self):
        some = [rules for rules in oracle.rules_up_to(8, 2) if rules[-1][0] > 4]
        for rules in some[::41] + [rules for rules in some if oracle.clashes(rules)][::23]:
            self.check(rules)

    def test_many_rules_against_all_rows(self):
        for rules in oracle.rules_of_spans((2, 3, 5))[::7] + [FIVE, FIVE[:4] + ((8, 4, 4),)]:
            self.check(rules)
        self.check(((4, 0, 4), (5, 2, 5), (6, 0, 5), (7, 0, 2), (8, 0, 8)))
        self.check(((4, 1, 3), (5, 1, 4), (6, 2, 4), (7, 0, 3), (8, 4, 8)))

    def test_no_row_of_two_clashing_rules_is_as_long_as_the_bound(self):
        for spans in ((7, 8), (6, 8), (5, 8), (4, 8), (1, 8), (4, 6), (5, 7), (3, 6)):
            for rules in oracle.rules_of_spans(spans)[::3]:
                if oracle.clashes(rules):
                    many = longest(rules)
                    self.assertIsNotNone(many, rules)
                    self.assertLess(many, sum(spans) - math.gcd(*spans), rules)

    def test_the_bound_is_come_to(self):
        self.assertEqual(longest(((2, 1, 1), (3, 2, 2))), 3)
        self.assertEqual(longest_row(((2, 1, 1), (3, 2, 2))), (1, 0, 1))

    def test_only_the_empty_row(self):
        # One rule of span 1 leaves a row of one place: so no rules are kept by the empty row alone.
        for rules in oracle.rules_up_to(3, 3):
            self.assertNotEqual(longest(rules), 0)
            self.assertNotEqual(longest_row(rules), ())

    def test_rows_shorter_than_a_span(self):
        self.assertEqual(longest(((1, 1, 1), (2, 0, 1))), 1)
        self.assertEqual(longest_row(((1, 1, 1), (2, 0, 1))), (1,))
        self.assertEqual(longest(((1, 0, 0), (8, 1, 8))), 7)
        self.assertEqual(longest_row(((1, 0, 0), (8, 1, 8))), (0,) * 7)
        self.assertEqual(longest(((7, 7, 7), (8, 0, 0))), 7)
        self.assertEqual(longest_row(((7, 7, 7), (8, 0, 0))), (1,) * 7)

    def test_the_first_of_the_longest(self):
        for rules, row, many in (
            (((7, 3, 3), (8, 2, 2)), (0, 0, 0, 0, 1, 1, 1), 35),
            (((4, 2, 2), (5, 0, 1)), (0, 0, 1, 1), 6),
            (((2, 1, 2), (8, 0, 2)), (0, 1, 0, 1, 0, 1, 0), 34),
            (((7, 3, 3), (8, 4, 4)), (1, 1, 1, 0, 0, 0, 0, 1, 1, 1), 1),
        ):
            self.assertEqual(longest_row(rules), row)
            self.assertEqual(longest(rules), len(row))
            self.assertEqual(len(oracle.longest_rows(rules)), many)
            self.assertEqual(min(oracle.longest_rows(rules)), row)

    def test_any_length(self):
        for rules in (((8, 8, 8),), ((1, 0, 0),), FIVE, ((2, 1, 1), (4, 2, 2), (8, 4, 4))):
            self.assertIsNone(longest(rules))
            self.assertIsNone(longest_row(rules))


class Refusals(unittest.TestCase):
    def test_no_rules(self):
        for thing in oracle.NO_RULES + oracle.NONSENSE:
            for ask in (parts, clash, longest, longest_row):
                with self.assertRaises(NoRules, msg=repr(thing)):
                    ask(thing)


if __name__ == "__main__":
    unittest.main()
