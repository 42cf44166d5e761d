import unittest

import oracle
from anyspan.errors import NoRules, NoTold
from anyspan.fillings import filling, how_many
from anyspan.rules import is_row, keeps

SOME = ((3, 1, 2),)
FIVE = ((2, 0, 1), (3, 1, 2), (5, 1, 3), (7, 2, 4), (8, 2, 5))
NONE_TOLD = (None,) * 120


def counted(rules, length):
    """How many rows of this length keep rules: counted forward by their last places."""
    tails = {(): 1}
    for place in range(length):
        longer = {}
        for tail, many in tails.items():
            for row in (tail + (0,), tail + (1,)):
                if oracle.does_keep(rules, row):
                    longer[row[-8:]] = longer.get(row[-8:], 0) + many
        tails = longer
    return sum(tails.values())


class AgainstAllRows(unittest.TestCase):
    def check(self, rules, told):
        rows = oracle.all_fillings(rules, told)
        first, many = filling(rules, told), how_many(rules, told)
        self.assertEqual(many, len(rows), (rules, told))
        self.assertEqual(first, rows[0] if rows else None, (rules, told))
        self.assertIs(type(many), int)
        if first is not None:
            self.assertTrue(is_row(first))
            self.assertIs(type(first), tuple)

    def test_all_short_told_rows(self):
        for rules in oracle.rules_up_to(3, 2)[::2] + oracle.rules_of_spans((1, 2, 3))[::9]:
            for length in range(5):
                for told in oracle.told_rows(length):
                    self.check(rules, told)

    def test_longer_told_rows(self):
        some = oracle.rules_up_to(4, 2)[::17] + oracle.rules_of_spans((3, 5))[::7] + [FIVE]
        for rules in some:
            for told in oracle.told_rows(7)[::31]:
                self.check(rules, told)

    def test_none_told(self):
        for rules in oracle.rules_up_to(4, 2)[::3] + [FIVE, ((8, 4, 4),), ((7, 3, 3), (8, 4, 4))]:
            for length in range(10):
                self.check(rules, (None,) * length)

    def test_long_spans(self):
        for rules in (((8, 3, 4),), ((7, 2, 3), (8, 3, 3)), ((6, 3, 3), (8, 4, 5)), ((1, 0, 1), (8, 0, 8)), FIVE):
            for told in oracle.told_rows(10)[::997]:
                self.check(rules, told)
            self.check(rules, (None,) * 11)

    def test_all_told(self):
        for rules in oracle.rules_up_to(4, 2)[::13]:
            for row in oracle.rows_of(6):
                right = oracle.does_keep(rules, row)
                self.assertEqual(filling(rules, row), row if right else None)
                self.assertEqual(how_many(rules, row), 1 if right else 0)


class Edges(unittest.TestCase):
    def test_no_places(self):
        for rules in (SOME, FIVE, ((1, 0, 0),), ((1, 1, 1), (2, 0, 0)), ((8, 8, 8),)):
            self.assertEqual(filling(rules, ()), ())
            self.assertEqual(how_many(rules, ()), 1)

    def test_span_one_alone(self):
        self.assertEqual(filling(((1, 0, 1),), (None, 1, 0, None)), (0, 1, 0, 0))
        self.assertEqual(how_many(((1, 0, 1),), (None, 1, 0, None)), 4)
        self.assertEqual(filling(((1, 1, 1),), (None, 1, None)), (1, 1, 1))
        self.assertEqual(how_many(((1, 1, 1),), (None, 1, None)), 1)
        self.assertIsNone(filling(((1, 1, 1),), (None, 0, None)))
        self.assertEqual(how_many(((1, 1, 1),), (None, 0, None)), 0)
        self.assertIsNone(filling(((1, 0, 0),), (None, 1, None)))
        self.assertEqual(filling(((1, 0, 0),), (None, 0)), (0, 0))

    def test_shorter_than_the_span(self):
        self.assertEqual(filling(((8, 8, 8),), (None,) * 7), (0,) * 7)
        self.assertEqual(how_many(((8, 8, 8),), (None,) * 7), 128)
        self.assertEqual(filling(((8, 8, 8),), (None,) * 8), (1,) * 8)
        self.assertEqual(how_many(((8, 8, 8),), (None,) * 8), 1)

    def test_a_place_that_looks_free_but_leads_nowhere(self):
        # 0 could be first but for what is told behind.
        self.assertEqual(filling(((2, 1, 1),), (None, None, None, 0)), (1, 0, 1, 0))
        self.assertEqual(filling(((2, 1, 1),), (None, None, None, 1)), (0, 1, 0, 1))
        self.assertEqual(filling(((3, 1, 1),), (None,) * 5 + (1,)), (0, 0, 1, 0, 0, 1))
        self.assertEqual(filling(((3, 1, 1),), (None,) * 5 + (0,)), (0, 1, 0, 0, 1, 0))

    def test_told_places_without_filling(self):
        self.assertIsNone(filling(((2, 1, 1),), (0, None, 1)))
        self.assertEqual(how_many(((2, 1, 1),), (0, None, 1)), 0)
        self.assertIsNone(filling(((2, 1, 1),), (0,) + (None,) * 118 + (0,)))
        self.assertEqual(filling(((2, 1, 1),), (0,) + (None,) * 118 + (1,)), (0, 1) * 60)

    def test_clashing_rules(self):
        rules = ((2, 1, 1), (3, 2, 2))
        self.assertEqual(filling(rules, (None,) * 3), (1, 0, 1))
        self.assertEqual(how_many(rules, (None,) * 3), 1)
        self.assertIsNone(filling(rules, (None,) * 4))
        self.assertEqual(how_many(rules, (None,) * 4), 0)
        self.assertIsNone(filling(rules, NONE_TOLD))
        self.assertEqual(how_many(rules, NONE_TOLD), 0)


class Long(unittest.TestCase):
    def test_great_numbers_exactly(self):
        self.assertEqual(how_many(((1, 0, 1),), NONE_TOLD), 2 ** 120)
        self.assertEqual(how_many(((8, 0, 8),), NONE_TOLD), 2 ** 120)
        self.assertEqual(how_many(((8, 0, 8),), (None, 1, 0) * 40), 2 ** 40)
        # no two marks side by side: Fibonacci's numbers
        before, here = 1, 2
        for length in range(1, 121):
            self.assertEqual(how_many(((2, 0, 1),), (None,) * length), here)
            before, here = here, before + here

    def test_great_numbers_against_counting(self):
        for rules in (SOME, FIVE, ((5, 2, 3), (8, 3, 5)), ((4, 2, 2), (6, 3, 3)), ((8, 1, 7),)):
            for length in (31, 120):
                self.assertEqual(how_many(rules, (None,) * length), counted(rules, length))

    def test_the_first_of_many(self):
        for rules in (SOME, FIVE, ((5, 2, 3), (8, 3, 5)), ((4, 0, 2), (6, 3, 3)), ((8, 3, 3),)):
            row = filling(rules, NONE_TOLD)
            self.assertTrue(keeps(rules, row))
            self.assertEqual(len(row), 120)
            for at in range(120):
                if row[at] == 1:
                    # nothing begins like it, but for a 0 here
                    earlier = row[:at] + (0,) + (None,) * (119 - at)
                    self.assertIsNone(filling(rules, earlier))
                    self.assertEqual(how_many(rules, earlier), 0)

    def test_told_places_stand(self):
        row = (1, 0, 0, 1, 0) * 24
        rules = ((2, 0, 1), (5, 2, 2))
        told = tuple(None if at % 3 else row[at] for at in range(120))
        first = filling(rules, told)
        self.assertTrue(keeps(rules, first))
        self.assertTrue(all(part is None or part == place for part, place in zip(told, first)))
        self.assertEqual(filling(rules, row), row)
        self.assertEqual(how_many(rules, row), 1)
        wrong = row[:119] + (1,)
        self.assertIsNone(filling(rules, wrong))
        self.assertEqual(how_many(rules, wrong), 0)

    def test_told_as_nought_and_as_one_is_together(self):
        for rules in (SOME, FIVE, ((5, 2, 3), (8, 3, 5)), ((2, 1, 1), (3, 1, 2))):
            for told in (NONE_TOLD, (None, None, 1, None, 0) * 24, (0, None, None) * 5, (None,)):
                for at in range(0, len(told), 7):
                    if told[at] is None:
                        parted = [how_many(rules, told[:at] + (place,) + told[at + 1:]) for place in (0, 1)]
                        self.assertEqual(sum(parted), how_many(rules, told))


class Refusals(unittest.TestCase):
    def test_no_rules(self):
        for thing in oracle.NO_RULES + oracle.NONSENSE:
            for told in ((), (None, 1), [None], None, thing):
                for ask in (filling, how_many):
                    with self.assertRaises(NoRules, msg=repr(thing)):
                        ask(thing, told)

    def test_no_told(self):
        for thing in oracle.NO_TOLD + oracle.NONSENSE:
            for rules in (SOME, FIVE, ((2, 1, 1), (3, 2, 2))):
                for ask in (filling, how_many):
                    with self.assertRaises(NoTold, msg=repr(thing)):
                        ask(rules, thing)

    def test_one_wrong_place(self):
        for wrong in (2, -1, True, False, "0", "", (), (0,), [None], 10 ** 39):
            for at in (0, 60, 119):
                told = NONE_TOLD[:at] + (wrong,) + NONE_TOLD[at + 1:]
                for ask in (filling, how_many):
                    with self.assertRaises(NoTold):
                        ask(SOME, told)


if __name__ == "__main__":
    unittest.main()
