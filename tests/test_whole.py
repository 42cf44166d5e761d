"""What the document promises over the whole: exchanged, turned about, refused in order, nothing changed."""

import copy
import unittest
from fractions import Fraction
from itertools import product

import oracle
from anyspan.chains import chain, gain, mark_chains, marks
from anyspan.errors import Breaks, NoNumber, NoPart, NoRow, NoRules, NoTold
from anyspan.fillings import filling, how_many
from anyspan.goings import alike, goes_on, nexts, parted
from anyspan.laid import Laid
from anyspan.parts import clash, even_row, longest, longest_row, parts
from anyspan.rules import keeps

FIVE = ((4, 1, 3), (5, 2, 3), (6, 2, 4), (7, 3, 4), (8, 3, 5))
SAMPLE = (
    oracle.rules_up_to(4, 2)[::6] + oracle.rules_up_to(8, 2)[::301] + oracle.rules_of_spans((2, 3, 5))[::37]
    + [FIVE, ((7, 3, 3), (8, 4, 4)), ((1, 0, 1),), ((1, 0, 0),), ((8, 8, 8),)]
)
FEWER = SAMPLE[::3] + SAMPLE[-5:]
TOLD = (
    oracle.told_rows(2) + oracle.told_rows(6)[::67] + oracle.told_rows(9)[::2111]
    + [(), (None,) * 12, (None,) * 40, (0,) + (None,) * 20 + (1,)]
)


def flipped_told(told):
    return tuple(None if part is None else 1 - part for part in told)


class Exchanged(unittest.TestCase):
    def test_fillings_and_marks(self):
        for rules in FEWER:
            other = oracle.exchanged(rules)
            for told in TOLD:
                back = flipped_told(told)
                self.assertEqual(how_many(other, back), how_many(rules, told))
                self.assertEqual(filling(other, back) is None, filling(rules, told) is None)
                self.assertEqual(chain(other, back) is None, chain(rules, told) is None)
                self.assertEqual(mark_chains(other, back) is None, mark_chains(rules, told) is None)
                here, there = marks(rules, told), marks(other, back)
                if here is None:
                    self.assertIsNone(there)
                else:
                    self.assertEqual(there, (len(told) - here[1], len(told) - here[0]))

    def test_a_filling_exchanged_is_a_filling(self):
        for rules in FEWER:
            for told in TOLD:
                row = filling(oracle.exchanged(rules), flipped_told(told))
                if row is not None:
                    self.assertEqual(filling(rules, oracle.flipped(row)), oracle.flipped(row))
                    self.assertTrue(all(part in (None, place) for part, place in zip(told, oracle.flipped(row))))

    def test_longest_rows(self):
        for rules in SAMPLE:
            other = oracle.exchanged(rules)
            self.assertEqual(longest(other), longest(rules))
            row = longest_row(other)
            self.assertEqual(row is None, longest_row(rules) is None)
            if row is not None:
                self.assertTrue(keeps(rules, oracle.flipped(row)))

    def test_parts(self):
        for rules in oracle.rules_up_to(8, 2)[::3]:
            told, other = parts(rules), parts(oracle.exchanged(rules))
            if told is None:
                self.assertIsNone(other)
            else:
                low, high = [1 - Fraction(*part) for part in told]
                self.assertEqual(other, (oracle.told_as(high), oracle.told_as(low)))

    def test_clashes(self):
        for rules in oracle.rules_up_to(8, 2)[::3] + oracle.rules_of_spans((1, 3, 5))[::4]:
            told, other = clash(rules), clash(oracle.exchanged(rules))
            self.assertEqual(told is None, other is None)
            if told is not None:
                back = oracle.exchanged(other[::-1])
                self.assertIn(back, oracle.clashes(rules))

    def test_how_rows_go_on(self):
        for rules in SAMPLE:
            for row in oracle.kept_rows(rules, 3) + oracle.kept_rows(rules, 7)[::9]:
                other, back = oracle.exchanged(rules), oracle.flipped(row)
                self.assertEqual(goes_on(other, back), goes_on(rules, row))
                self.assertEqual(nexts(other, back), sorted(1 - place for place in nexts(rules, row)))

    def test_two_lots_of_rules(self):
        for one, other in product(SAMPLE[::4], SAMPLE[::5]):
            ones, others = oracle.exchanged(one), oracle.exchanged(other)
            self.assertEqual(alike(ones, others), alike(one, other))
            row, back = parted(one, other), parted(ones, others)
            if row is not None:
                self.assertEqual(len(row), len(back))
                self.assertNotEqual(keeps(one, oracle.flipped(back)), keeps(other, oracle.flipped(back)))

    def test_laid(self):
        for rules in SAMPLE[::3]:
            one, other = Laid(rules), Laid(oracle.exchanged(rules))
            for place in (0, 1, 1, 0, 0, 0, 1, 1, 0, 1, 0, 1):
                self.assertEqual(other.can_be_laid(), sorted(1 - good for good in one.can_be_laid()))
                self.assertEqual(other.goes_on(), one.goes_on())
                self.assertEqual(other.marked(), len(one) - one.marked())
                if place in one.can_be_laid():
                    one.lay(place)
                    other.lay(1 - place)
                else:
                    with self.assertRaises(Breaks) as here:
                        one.lay(place)
                    with self.assertRaises(Breaks) as there:
                        other.lay(1 - place)
                    self.assertEqual((there.exception.rule,), oracle.exchanged((here.exception.rule,)))


class TurnedAbout(unittest.TestCase):
    def test_fillings_and_marks(self):
        for rules in FEWER:
            for told in TOLD:
                back = told[::-1]
                self.assertEqual(how_many(rules, back), how_many(rules, told))
                self.assertEqual(marks(rules, back), marks(rules, told))
                self.assertEqual(chain(rules, back) is None, chain(rules, told) is None)
                row = filling(rules, back)
                self.assertEqual(row is None, filling(rules, told) is None)
                if row is not None:
                    self.assertEqual(how_many(rules, row[::-1]), 1)

    def test_chains_turned_about(self):
        # What lies between two seams lies between them from the other side, too.
        for rules in SAMPLE:
            for told in TOLD:
                seams = chain(rules, told)
                if seams is not None:
                    back = [len(told) - seam for seam in seams[::-1]]
                    self.assertEqual(gain(rules, told[::-1], back), gain(rules, told, seams))

    def test_longest_rows_and_lots(self):
        for rules in SAMPLE:
            row = longest_row(rules)
            if row is not None:
                self.assertTrue(keeps(rules, row[::-1]))
                self.assertLessEqual(row, row[::-1])
        for one, other in product(SAMPLE[::4], SAMPLE[::5]):
            row = parted(one, other)
            if row is not None:
                self.assertNotEqual(keeps(one, row[::-1]), keeps(other, row[::-1]))
                self.assertLessEqual(row, row[::-1])

    def test_rows_that_begin_go_on_like_rows_that_end(self):
        # As many rows end by the row turned about as begin by it.
        for rules in SAMPLE[::2]:
            for row in oracle.kept_rows(rules, 3):
                far = goes_on(rules, row)
                for more in (1, 4, 9):
                    behind = how_many(rules, row + (None,) * more)
                    self.assertEqual(how_many(rules, (None,) * more + row[::-1]), behind)
                    self.assertEqual(behind > 0, far is None or more <= far)


class Together(unittest.TestCase):
    def test_any_length_just_where_parts_have_a_number_in_common(self):
        for rules in SAMPLE:
            endless = parts(rules) is not None
            self.assertEqual(clash(rules) is None, endless)
            self.assertEqual(longest(rules) is None, endless)
            self.assertEqual(goes_on(rules, ()) is None, endless)
            self.assertEqual(filling(rules, (None,) * 120) is not None, endless)
            self.assertEqual(bool(nexts(rules, ())), endless)
            if endless:
                for part in parts(rules):
                    self.assertTrue(keeps(rules, even_row(part, 120)))

    def test_the_longest_row_is_the_first_filling(self):
        for rules in SAMPLE:
            many = longest(rules)
            if many is not None:
                self.assertEqual(filling(rules, (None,) * many), longest_row(rules))
                self.assertIsNone(filling(rules, (None,) * (many + 1)))
                self.assertEqual(how_many(rules, (None,) * (many + 1)), 0)

    def test_marks_between_are_had(self):
        for rules in SAMPLE[::3]:
            for told in ((None,) * 11, (None, None, 1) * 3, (0,) + (None,) * 9):
                had = sorted({sum(row) for row in oracle.all_fillings(rules, told)})
                told_marks = marks(rules, told)
                self.assertEqual(had, [] if told_marks is None else list(range(told_marks[0], told_marks[1] + 1)))

    def test_alike_lots_have_as_many_rows(self):
        for one, other in product(SAMPLE[::4], SAMPLE[::5]):
            if alike(one, other):
                for length in (1, 5, 8, 13):
                    self.assertEqual(how_many(one, (None,) * length), how_many(other, (None,) * length))
            else:
                row = parted(one, other)
                self.assertEqual(how_many(one, row) + how_many(other, row), 1)


RULES = (NoRules, ((3, 1, 2),), [(3, 1, 2)])
ROW = (NoRow, (0, 1), [0, 1])
TOLD_ROW = (NoTold, (None, 1), (None, True))
PART = (NoPart, (1, 2), (2, 4))
NUMBER = (NoNumber, 5, True)

# Each function with the kinds of its arguments: (what refuses it, a right one, one that is none).
ARGUMENTS = [
    (keeps, (RULES, ROW)), (parts, (RULES,)), (even_row, (PART, NUMBER)), (clash, (RULES,)), (longest, (RULES,)),
    (longest_row, (RULES,)), (filling, (RULES, TOLD_ROW)), (how_many, (RULES, TOLD_ROW)), (chain, (RULES, TOLD_ROW)),
    (marks, (RULES, TOLD_ROW)), (mark_chains, (RULES, TOLD_ROW)), (goes_on, (RULES, ROW)), (nexts, (RULES, ROW)),
    (alike, (RULES, RULES)), (parted, (RULES, RULES)), (Laid, (RULES,)),
]


class Refusals(unittest.TestCase):
    def test_each_argument_and_several_at_once(self):
        for ask, kinds in ARGUMENTS:
            for wrong in product((False, True), repeat=len(kinds)):
                things = [kind[2] if is_wrong else kind[1] for kind, is_wrong in zip(kinds, wrong)]
                due = [kind[0] for kind, is_wrong in zip(kinds, wrong) if is_wrong]
                if due:
                    with self.assertRaises(due[0], msg=(ask, things)):
                        ask(*things)
                else:
                    ask(*things)

    def test_gain(self):
        right, wrong = ((3, 1, 2),), [(3, 1, 2)]
        for thing in ([0, 1], [0, 5], None, "chain"):
            with self.assertRaises(NoRules):
                gain(wrong, (None, True), thing)
            with self.assertRaises(NoRules):
                gain(wrong, (None, 1), thing)
            with self.assertRaises(NoTold):
                gain(right, (None, True), thing)
        self.assertIsNone(gain(right, (None, 1), [0, 5]))

    def test_other_things_in_each_place(self):
        things = oracle.NONSENSE + oracle.NO_RULES
        for ask, kinds in ARGUMENTS:
            for thing in things:
                with self.assertRaises(kinds[0][0], msg=(ask, thing)):
                    ask(*[thing] * len(kinds))


class Unchanged(unittest.TestCase):
    def test_nothing_handed_in_is_changed(self):
        things = oracle.NONSENSE + oracle.NO_TOLD + oracle.NO_PARTS + oracle.NO_NUMBERS + [[0, 1, 2], [0, 3, 0]]
        before = copy.deepcopy(things)
        for thing in things:
            gain(((3, 1, 2),), (None,) * 5, thing)
            for ask, kinds in ARGUMENTS:
                try:
                    ask(*[kind[1] for kind in kinds[:-1]], thing)
                except ValueError:
                    pass
        self.assertEqual(repr(things), repr(before))

    def test_the_same_question_has_the_same_answer(self):
        for rules in SAMPLE[::4]:
            for ask in (parts, clash, longest, longest_row):
                self.assertEqual(ask(rules), ask(rules))
            for told in TOLD[::4]:
                for ask in (filling, how_many, chain, marks, mark_chains):
                    self.assertEqual(ask(rules, told), ask(rules, told))


if __name__ == "__main__":
    unittest.main()
