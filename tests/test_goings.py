import unittest

import oracle
from anyspan.errors import NoRow, NoRules
from anyspan.goings import alike, goes_on, nexts, parted
from anyspan.rules import are_rules, is_row, keeps

ENDLESS = ((3, 1, 2),)
DEAD = ((2, 1, 1), (3, 2, 2))
# Some rows keep these for ever, others come to a dead end.
STUCK = ((4, 0, 2), (6, 3, 3))

# Lots of up to five rules, of long spans, some kept for ever, some not, some with dead ends.
MANY_RULES = [
    ((1, 0, 1), (2, 0, 1), (3, 1, 2), (5, 2, 2), (8, 3, 4)),
    ((2, 0, 1), (3, 1, 1), (5, 1, 2), (7, 2, 3), (8, 2, 3)),
    ((3, 1, 2), (4, 2, 2), (5, 2, 3), (7, 3, 4), (8, 4, 4)),
    ((4, 1, 3), (5, 2, 3), (6, 2, 3), (7, 3, 3), (8, 3, 4)),
    ((5, 2, 3), (6, 3, 3), (7, 3, 4), (8, 3, 4)),
    ((5, 3, 3), (7, 4, 4)),
    ((7, 3, 3), (8, 4, 4)),
    ((7, 0, 3), (8, 4, 8)),
    ((1, 0, 0), (8, 1, 8)),
    ((8, 0, 8),),
    ((8, 4, 4),),
    ((8, 8, 8),),
]


class GoesOn(unittest.TestCase):
    def test_against_counting(self):
        for rules in oracle.rules_up_to(4, 2):
            for length in range(5):
                for row in oracle.kept_rows(rules, length):
                    self.assertEqual(goes_on(rules, row), oracle.how_far(rules, row), (rules, row))

    def test_many_rules_against_counting(self):
        for rules in MANY_RULES:
            self.assertTrue(are_rules(rules))
            for length in (0, 1, 5, 7, 8, 9):
                for row in oracle.kept_rows(rules, length)[::9]:
                    self.assertEqual(goes_on(rules, row), oracle.how_far(rules, row), (rules, row))
                    self.assertEqual(nexts(rules, row), oracle.which_next(rules, row), (rules, row))

    def test_against_all_longer_rows(self):
        for rules in oracle.rules_up_to(3, 3)[::2]:
            by_length = [oracle.kept_rows(rules, length) for length in range(11)]
            for row in by_length[2]:
                far = goes_on(rules, row)
                lengths = [len(other) for rows in by_length[2:] for other in rows if other[:2] == row]
                self.assertEqual(8 if far is None else far, max(lengths) - 2, (rules, row))

    def test_rules_that_can_not_be_kept_for_ever(self):
        self.assertEqual(goes_on(DEAD, ()), 3)
        self.assertEqual(goes_on(DEAD, (1,)), 2)
        self.assertEqual(goes_on(DEAD, (0,)), 1)
        self.assertEqual(goes_on(DEAD, (1, 0)), 1)
        self.assertEqual(goes_on(DEAD, (0, 1)), 0)
        self.assertEqual(goes_on(DEAD, (1, 0, 1)), 0)
        self.assertEqual(goes_on(((1, 0, 0), (8, 1, 8)), ()), 7)
        self.assertEqual(goes_on(((1, 1, 1), (2, 0, 1)), ()), 1)

    def test_as_long_as_both_spans_less_their_divisor(self):
        for rules, most in ((((7, 3, 3), (8, 4, 4)), 13), (((5, 3, 3), (7, 4, 4)), 10), (((4, 2, 2), (6, 2, 2)), 7)):
            self.assertEqual(goes_on(rules, ()), oracle.how_far(rules, ()))
            self.assertLessEqual(goes_on(rules, ()), most)

    def test_for_ever(self):
        self.assertIsNone(goes_on(ENDLESS, ()))
        self.assertIsNone(goes_on(ENDLESS, (0, 0)))
        self.assertIsNone(goes_on(((8, 0, 8),), (1,) * 120))
        self.assertIsNone(goes_on(((1, 1, 1),), (1,) * 120))

    def test_a_row_that_is_stuck_by_rules_that_others_keep_for_ever(self):
        self.assertIsNone(goes_on(STUCK, ()))
        self.assertIsNone(goes_on(STUCK, (1, 0, 1)))
        self.assertEqual(goes_on(STUCK, (1, 1)), 5)
        self.assertEqual(goes_on(STUCK, (0, 1, 1)), 5)
        self.assertEqual(goes_on(STUCK, (0, 1, 1, 0, 0, 1)), 2)
        self.assertEqual(goes_on(STUCK, (0, 1, 1, 0, 0, 1, 0)), 1)
        self.assertEqual(goes_on(((2, 0, 0),), (1,)), 0)
        self.assertEqual(goes_on(((8, 8, 8),), (0,)), 6)
        for length in range(9):
            for row in oracle.kept_rows(STUCK, length):
                self.assertEqual(goes_on(STUCK, row), oracle.how_far(STUCK, row), row)

    def test_a_full_row_goes_on(self):
        row = (1, 0) * 60
        self.assertIsNone(goes_on(((2, 1, 1),), row))
        self.assertEqual(nexts(((2, 1, 1),), row), [1])
        self.assertEqual(nexts(ENDLESS, row), [0, 1])
        self.assertEqual(nexts(ENDLESS, (0,) + row[:119]), [0, 1])

    def test_far_in_a_full_row(self):
        rules = ((2, 0, 1), (5, 2, 2))
        row = (1, 0, 1, 0, 0) * 24
        self.assertTrue(keeps(rules, row))
        self.assertEqual(goes_on(rules, row), oracle.how_far(rules, row))
        self.assertEqual(nexts(rules, row), oracle.which_next(rules, row))


class Nexts(unittest.TestCase):
    def test_against_counting(self):
        for rules in oracle.rules_up_to(4, 2)[::2]:
            for length in range(5):
                for row in oracle.kept_rows(rules, length):
                    self.assertEqual(nexts(rules, row), oracle.which_next(rules, row), (rules, row))

    def test_by_both_by_one_by_none(self):
        self.assertEqual(nexts(ENDLESS, ()), [0, 1])
        self.assertEqual(nexts(ENDLESS, (0, 0)), [1])
        self.assertEqual(nexts(ENDLESS, (1, 1)), [0])
        self.assertEqual(nexts(((1, 1, 1),), ()), [1])
        self.assertEqual(nexts(((1, 0, 0),), (0,)), [0])
        self.assertEqual(nexts(DEAD, ()), [])
        self.assertEqual(nexts(DEAD, (1,)), [])
        self.assertEqual(nexts(DEAD, (1, 0, 1)), [])

    def test_a_place_that_can_be_set_but_leads_nowhere_is_not_told(self):
        self.assertEqual(nexts(STUCK, (1,)), [0])
        self.assertEqual(goes_on(STUCK, (1, 1)), 5)
        self.assertEqual(nexts(STUCK, (1, 1)), [])
        self.assertEqual(nexts(((8, 8, 8),), ()), [1])
        for length in range(9):
            for row in oracle.kept_rows(STUCK, length):
                self.assertEqual(nexts(STUCK, row), oracle.which_next(STUCK, row), row)

    def test_behind_a_told_place_it_goes_on_for_ever(self):
        for rules in MANY_RULES + [ENDLESS, STUCK, ((2, 0, 1), (5, 2, 2))]:
            if goes_on(rules, ()) is not None:
                self.assertEqual(nexts(rules, ()), [])
                continue
            row = ()
            while len(row) < 120:
                told = nexts(rules, row)
                self.assertIsNone(goes_on(rules, row))
                self.assertTrue(told)
                row += (told[len(row) % len(told)],)
            self.assertTrue(keeps(rules, row))
            self.assertIsNone(goes_on(rules, row))
            self.assertTrue(nexts(rules, row))

    def test_a_told_list_is_the_askers_own(self):
        told = nexts(ENDLESS, ())
        told.append("mine")
        told[0] = "mine"
        self.assertEqual(nexts(ENDLESS, ()), [0, 1])
        self.assertIsNot(nexts(ENDLESS, ()), nexts(ENDLESS, ()))
        empty = nexts(DEAD, ())
        empty.append("mine")
        self.assertEqual(nexts(DEAD, ()), [])
        self.assertIs(type(nexts(DEAD, ())), list)


class Exchanged(unittest.TestCase):
    def test_marks_and_bare_places_exchanged(self):
        for rules in oracle.rules_up_to(4, 2)[::5]:
            for row in oracle.kept_rows(rules, 3):
                other, back = oracle.exchanged(rules), oracle.flipped(row)
                self.assertEqual(goes_on(other, back), goes_on(rules, row))
                self.assertEqual(nexts(other, back), sorted(1 - place for place in nexts(rules, row)))

    def test_of_two_lots(self):
        some = oracle.rules_up_to(4, 2)[::11]
        for one in some:
            for other in some[::3]:
                row = parted(one, other)
                back = parted(oracle.exchanged(one), oracle.exchanged(other))
                self.assertEqual(row is None, back is None)
                if row is not None:
                    self.assertEqual(len(row), len(back))


class Parted(unittest.TestCase):
    def check(self, one, other, most):
        told = parted(one, other)
        self.assertEqual(told, oracle.first_apart(one, other, most), (one, other))
        self.assertEqual(parted(other, one), told)
        self.assertIs(alike(one, other), told is None)
        self.assertIs(alike(other, one), told is None)
        if told is not None:
            self.assertTrue(is_row(told))
            self.assertNotEqual(keeps(one, told), keeps(other, told))

    def test_all_pairs_of_short_spans(self):
        # Rows far longer than any span are looked at, too.
        some = oracle.rules_up_to(3, 2)
        for at, one in enumerate(some):
            for other in some[at % 7::7]:
                self.check(one, other, 7)

    def test_pairs_of_long_spans(self):
        for one in MANY_RULES:
            for other in MANY_RULES:
                self.check(one, other, 9)

    def test_pairs_that_differ_in_one_rule_only(self):
        apart = {}
        for one in MANY_RULES + [ENDLESS, DEAD, STUCK]:
            for at, (span, least, most) in enumerate(one):
                for rule in ((span, least - 1, most), (span, least + 1, most), (span, least, most + 1)):
                    other = one[:at] + (rule,) + one[at + 1:]
                    if are_rules(other):
                        self.check(one, other, 10)
                        told = parted(one, other)
                        apart[None if told is None else len(told)] = True
        # Among them are lots that are alike, and some that only rows of 8 places part.
        self.assertIn(None, apart)
        self.assertIn(8, apart)

    def test_the_same_rules(self):
        for rules in MANY_RULES + [ENDLESS, DEAD]:
            self.assertIsNone(parted(rules, rules))
            self.assertIs(alike(rules, rules), True)

    def test_the_same_in_other_words(self):
        pairs = [
            (((1, 0, 1),), ((8, 0, 8),)),
            (((2, 0, 1),), ((2, 0, 1), (3, 0, 2))),
            (((2, 1, 1),), ((2, 1, 1), (3, 1, 2), (4, 2, 2))),
            (((1, 0, 0),), ((1, 0, 0), (5, 0, 3))),
            (((1, 1, 1),), ((1, 1, 1), (2, 2, 2), (3, 3, 3), (4, 4, 4), (5, 5, 5))),
            (DEAD, ((2, 1, 1), (3, 2, 2), (4, 0, 0))),
        ]
        for one, other in pairs:
            self.assertIs(alike(one, other), True, (one, other))
            self.check(one, other, 10)

    def test_apart_in_longer_rows_only(self):
        self.assertEqual(parted(((1, 0, 1),), ((8, 0, 7),)), (1,) * 8)
        self.assertEqual(parted(((8, 1, 8),), ((1, 0, 1),)), (0,) * 8)
        self.assertEqual(parted(((7, 1, 6),), ((7, 1, 6), (8, 2, 6))), (0, 0, 0, 0, 0, 0, 1, 0))
        self.assertIs(alike(((1, 0, 1),), ((8, 0, 7),)), False)

    def test_rules_that_are_kept_by_the_same_long_rows_alone_are_apart(self):
        # No row of two places keeps either lot of the first pair, but shorter ones part them.
        self.assertEqual(parted(((1, 0, 0), (2, 1, 2)), ((1, 1, 1), (2, 0, 1))), (0,))
        self.assertEqual(parted(((1, 1, 1),), ((2, 2, 2),)), (0,))

    def test_the_first_of_the_shortest(self):
        self.assertEqual(parted(((2, 1, 2),), ((2, 0, 1),)), (0, 0))
        self.assertEqual(parted(((2, 0, 1),), ((2, 1, 1),)), (0, 0))
        self.assertEqual(parted(((3, 0, 1),), ((3, 0, 2),)), (0, 1, 1))
        self.assertEqual(parted(((1, 0, 0),), ((1, 1, 1),)), (0,))
        self.assertEqual(parted(((1, 0, 0),), ((1, 0, 1),)), (1,))


class Refusals(unittest.TestCase):
    def test_no_rules(self):
        for thing in oracle.NO_RULES + oracle.NONSENSE:
            for ask in (goes_on, nexts):
                for row in ((), (0, 1), [0], None, thing):
                    with self.assertRaises(NoRules):
                        ask(thing, row)
            for ask in (alike, parted):
                with self.assertRaises(NoRules):
                    ask(thing, ENDLESS)
                with self.assertRaises(NoRules):
                    ask(ENDLESS, thing)
                with self.assertRaises(NoRules):
                    ask(thing, thing)

    def test_no_row(self):
        for thing in oracle.NO_ROWS + oracle.NONSENSE:
            for ask in (goes_on, nexts):
                for rules in (ENDLESS, DEAD):
                    with self.assertRaises(NoRow):
                        ask(rules, thing)

    def test_a_begun_row_that_breaks_a_rule(self):
        late = (0, 1) * 58 + (0, 0, 0)
        early = (1, 1, 1) + (0, 1) * 58
        middle = (0, 1) * 30 + (1, 1) + (0, 1) * 29
        for ask in (goes_on, nexts):
            for row in ((0, 0, 0), (1, 1, 1), late, early, middle):
                self.assertFalse(oracle.does_keep(ENDLESS, row))
                with self.assertRaises(NoRow):
                    ask(ENDLESS, row)
            with self.assertRaises(NoRow):
                ask(DEAD, (0, 1, 0))
            with self.assertRaises(NoRow):
                ask(DEAD, (0, 0, 1, 0, 1, 0, 1))
            with self.assertRaises(NoRow):
                ask(((1, 0, 0),), (1,))
            with self.assertRaises(NoRow):
                ask(((1, 0, 1), (2, 0, 2), (8, 0, 7)), (1,) * 8)

    def test_no_other_refusal_comes_first(self):
        for ask in (goes_on, nexts):
            with self.assertRaises(NoRules):
                ask(((2, 1, 0),), (2,))
            with self.assertRaises(NoRules):
                ask([(1, 0, 0)], (1,))


class Again(unittest.TestCase):
    def test_the_same_question_has_the_same_answer(self):
        for rules in MANY_RULES:
            self.assertEqual(goes_on(rules, ()), goes_on(rules, ()))
            self.assertEqual(nexts(rules, (0,)) if keeps(rules, (0,)) else 0,
                             nexts(rules, (0,)) if keeps(rules, (0,)) else 0)
            self.assertEqual(parted(rules, ENDLESS), parted(rules, ENDLESS))


if __name__ == "__main__":
    unittest.main()
