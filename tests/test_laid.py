import unittest

import oracle
from anyspan.errors import Breaks, Full, NoneLeft, NoPlace, NoRules
from anyspan.goings import goes_on
from anyspan.laid import Laid
from anyspan.rules import is_row, keeps

SOME = ((3, 1, 2),)
DEAD = ((2, 1, 1), (3, 2, 2))
STUCK = ((4, 0, 2), (6, 3, 3))
FREE = ((1, 0, 1),)
HALF = ((2, 1, 1),)
FIVE = ((1, 0, 1), (3, 1, 2), (5, 2, 3), (7, 3, 4), (8, 3, 5))
ALL = (SOME, DEAD, STUCK, FREE, HALF, FIVE, ((1, 0, 0),), ((1, 1, 1),), ((8, 8, 8),), ((8, 0, 7),))

# Anything but 0 and 1.
NO_PLACES = [
    True, False, None, 2, -1, 10 ** 39, -(10 ** 39), "", "0", "1", "place", "~" * 200, [], [0], [1], (), (0,), (1,),
    (0, 1), [None] * 400, oracle.DEEP, [[]],
]


def laid_of(rules, row):
    laid = Laid(rules)
    for place in row:
        laid.lay(place)
    return laid


def broken_rules(rules, row):
    """The rules that row breaks."""
    return [rule for rule in rules if not oracle.does_keep((rule,), row)]


class Lay(unittest.TestCase):
    def check_state(self, laid, rules, row):
        self.assertEqual(laid.row(), row)
        self.assertIs(type(laid.row()), tuple)
        self.assertTrue(is_row(laid.row()))
        self.assertEqual(len(laid), len(row))
        self.assertEqual(laid.marked(), sum(row))
        self.assertIs(type(laid.marked()), int)
        self.assertEqual(laid.goes_on(), oracle.how_far(rules, row[-7:]))
        self.assertEqual(laid.goes_on(), goes_on(rules, row))
        wanted = [place for place in (0, 1) if oracle.does_keep(rules, row[-7:] + (place,))]
        self.assertEqual(laid.can_be_laid(), wanted)
        self.assertIs(type(laid.can_be_laid()), list)

    def test_no_places_at_first(self):
        for rules in ALL:
            self.check_state(Laid(rules), rules, ())

    def test_every_row_that_can_be_laid(self):
        for rules in ALL + tuple(oracle.rules_up_to(3, 2)[::3]):
            for length in range(7):
                for row in oracle.kept_rows(rules, length)[::3]:
                    self.check_state(laid_of(rules, row), rules, row)

    def test_every_place_behind_every_row(self):
        for rules in ALL + tuple(oracle.rules_up_to(3, 3)[::5]):
            for row in oracle.kept_rows(rules, 4) + oracle.kept_rows(rules, 7)[::5]:
                for place in (0, 1):
                    laid = laid_of(rules, row)
                    broken = broken_rules(rules, row + (place,))
                    if broken:
                        with self.assertRaises(Breaks) as caught:
                            laid.lay(place)
                        self.assertEqual(caught.exception.rule, broken[0])
                        self.check_state(laid, rules, row)
                    else:
                        self.assertIsNone(laid.lay(place))
                        self.check_state(laid, rules, row + (place,))

    def test_one_rule_broken(self):
        laid = laid_of(SOME, (0, 0))
        with self.assertRaises(Breaks) as caught:
            laid.lay(0)
        self.assertEqual(caught.exception.rule, (3, 1, 2))
        self.check_state(laid, SOME, (0, 0))
        laid.lay(1)
        laid.lay(1)
        with self.assertRaises(Breaks):
            laid.lay(1)
        self.check_state(laid, SOME, (0, 0, 1, 1))

    def test_the_first_of_several_broken(self):
        rules = ((2, 0, 1), (3, 0, 1), (4, 0, 1))
        laid = laid_of(rules, (0, 0, 1))
        with self.assertRaises(Breaks) as caught:
            laid.lay(1)
        self.assertEqual(caught.exception.rule, (2, 0, 1))
        laid.lay(0)
        with self.assertRaises(Breaks) as caught:
            laid.lay(1)
        self.assertEqual(caught.exception.rule, (3, 0, 1))
        laid.lay(0)
        with self.assertRaises(Breaks) as caught:
            laid.lay(1)
        self.assertEqual(caught.exception.rule, (4, 0, 1))
        self.assertEqual(laid.row(), (0, 0, 1, 0, 0))

    def test_a_shorter_row_breaks_no_longer_rule(self):
        laid = laid_of(((8, 8, 8),), (0,) * 7)
        self.assertEqual(laid.can_be_laid(), [])
        self.assertEqual(laid.goes_on(), 0)
        for place in (0, 1):
            with self.assertRaises(Breaks) as caught:
                laid.lay(place)
            self.assertEqual(caught.exception.rule, (8, 8, 8))

    def test_what_can_be_laid_may_lead_nowhere(self):
        laid = laid_of(STUCK, (1,))
        self.assertEqual(laid.can_be_laid(), [0, 1])
        laid.lay(1)
        self.assertEqual(laid.goes_on(), 5)
        self.assertEqual(laid.can_be_laid(), [0, 1])
        laid.lay(1)
        self.assertEqual(laid.goes_on(), 0)
        self.assertEqual(laid.can_be_laid(), [])
        laid = laid_of(DEAD, (1, 0, 1))
        self.assertEqual(laid.can_be_laid(), [])
        self.assertEqual(laid.goes_on(), 0)

    def test_no_place(self):
        for rules, row in ((SOME, ()), (SOME, (0, 0)), (DEAD, (1, 0, 1)), (FREE, (0, 1))):
            laid = laid_of(rules, row)
            for thing in NO_PLACES:
                with self.assertRaises(NoPlace, msg=repr(thing)):
                    laid.lay(thing)
                self.assertEqual(laid.row(), row)
            self.check_state(laid, rules, row)

    def test_places_are_whole_numbers(self):
        laid = laid_of(FREE, (0, 1, 1))
        for place in laid.row():
            self.assertIs(type(place), int)

    def test_a_told_list_is_the_askers_own(self):
        laid = Laid(SOME)
        told = laid.can_be_laid()
        told.append("mine")
        told[0] = "mine"
        self.assertEqual(laid.can_be_laid(), [0, 1])
        self.assertIsNot(laid.can_be_laid(), laid.can_be_laid())

    def test_rules_that_are_none(self):
        for thing in oracle.NO_RULES + oracle.NONSENSE:
            with self.assertRaises(NoRules, msg=repr(thing)):
                Laid(thing)

    def test_two_do_not_share_places(self):
        one, other = Laid(FREE), Laid(FREE)
        one.lay(1)
        self.assertEqual(other.row(), ())
        self.assertEqual(one.row(), (1,))

    def test_a_told_row_stays(self):
        laid = laid_of(FREE, (1, 0))
        row = laid.row()
        laid.lay(1)
        self.assertEqual(row, (1, 0))


class AtTheEnd(unittest.TestCase):
    def test_full(self):
        for rules, row in (
            (FREE, (0, 1, 1) * 40), (SOME, (1, 0) * 60), (HALF, (0, 1) * 60), (((8, 0, 8),), (1,) * 120),
            (STUCK, (1, 0) * 60),
        ):
            laid = laid_of(rules, row)
            good = laid.can_be_laid()
            self.assertEqual(good, [place for place in (0, 1) if oracle.does_keep(rules, row + (place,))])
            self.assertTrue(good)
            for place in (0, 1):
                with self.assertRaises(Full if place in good else Breaks):
                    laid.lay(place)
                self.assertEqual(laid.row(), row)
                self.assertEqual(len(laid), 120)
            self.assertEqual(laid.marked(), sum(row))
            self.assertEqual(laid.goes_on(), goes_on(rules, row))
            self.assertIsNone(laid.goes_on())

    def test_the_order_of_refusals_where_120_lie(self):
        laid = laid_of(HALF, (0, 1) * 60)
        for thing in NO_PLACES:
            with self.assertRaises(NoPlace):
                laid.lay(thing)
        with self.assertRaises(Breaks) as caught:
            laid.lay(1)
        self.assertEqual(caught.exception.rule, (2, 1, 1))
        with self.assertRaises(Full):
            laid.lay(0)
        self.assertEqual(laid.row(), (0, 1) * 60)
        self.assertEqual(laid.can_be_laid(), [0])

    def test_the_last_one_that_can_lie(self):
        laid = laid_of(FREE, (1,) * 119)
        self.assertEqual(len(laid), 119)
        laid.lay(0)
        self.assertEqual(len(laid), 120)
        self.assertEqual(laid.can_be_laid(), [0, 1])
        for place in (0, 1):
            with self.assertRaises(Full):
                laid.lay(place)
        laid.take()
        laid.lay(1)
        self.assertEqual(laid.row(), (1,) * 120)

    def test_one_place_fits_where_120_lie(self):
        laid = laid_of(((8, 1, 8),), (1,) * 113 + (0,) * 7)
        self.assertEqual(laid.can_be_laid(), [1])
        with self.assertRaises(Breaks):
            laid.lay(0)
        with self.assertRaises(Full):
            laid.lay(1)


class Take(unittest.TestCase):
    def test_none_left(self):
        laid = Laid(SOME)
        with self.assertRaises(NoneLeft):
            laid.take()
        self.assertEqual(laid.row(), ())
        laid.lay(1)
        self.assertIsNone(laid.take())
        with self.assertRaises(NoneLeft):
            laid.take()
        self.assertEqual(laid.row(), ())
        self.assertEqual(len(laid), 0)

    def test_taking_all_again(self):
        row = (1, 0, 0, 1, 1, 0) * 20
        laid = laid_of(SOME, row)
        for left in range(119, -1, -1):
            laid.take()
            self.assertEqual(laid.row(), row[:left])
            self.assertEqual(len(laid), left)
            self.assertEqual(laid.marked(), sum(row[:left]))
            self.assertEqual(laid.goes_on(), goes_on(SOME, row[:left]))
            self.assertEqual(laid.can_be_laid(),
                             [place for place in (0, 1) if keeps(SOME, row[:left] + (place,))])

    def test_the_last_one_is_taken(self):
        laid = laid_of(FREE, (1, 0, 0))
        laid.take()
        laid.lay(1)
        self.assertEqual(laid.row(), (1, 0, 1))
        self.assertEqual(laid.marked(), 2)


class Equal(unittest.TestCase):
    def test_same_rules_and_row(self):
        for row in ((), (1,), (0, 1, 0)):
            self.assertIs(laid_of(SOME, row) == laid_of(SOME, row), True)
            self.assertIs(laid_of(SOME, row) != laid_of(SOME, row), False)
        one = laid_of(SOME, (0, 1))
        self.assertIs(one == one, True)
        other = laid_of(SOME, (0, 1, 1))
        self.assertIs(one == other, False)
        other.take()
        self.assertIs(one == other, True)

    def test_other_rules(self):
        self.assertIs(Laid(SOME) == Laid(FREE), False)
        self.assertIs(Laid(SOME) != Laid(FREE), True)
        self.assertIs(laid_of(SOME, (1, 0)) == laid_of(FREE, (1, 0)), False)
        # alike, but not the same
        self.assertIs(Laid(((2, 0, 1),)) == Laid(((2, 0, 1), (3, 0, 2))), False)

    def test_another_row(self):
        self.assertIs(laid_of(FREE, (1,)) == laid_of(FREE, (0,)), False)
        self.assertIs(laid_of(FREE, (1, 0)) == laid_of(FREE, (0, 1)), False)
        self.assertIs(laid_of(FREE, (1,)) == laid_of(FREE, (1, 1)), False)
        self.assertIs(laid_of(FREE, ()) == laid_of(FREE, (0,)), False)

    def test_things_of_other_kinds(self):
        laid = laid_of(SOME, (1, 0))
        for thing in oracle.NONSENSE + oracle.NO_RULES + [(1, 0), [1, 0], SOME, (SOME, (1, 0)), Laid, object()]:
            self.assertIs(laid == thing, False)
            self.assertIs(thing == laid, False)
            self.assertIs(laid != thing, True)
        for thing in ((), [], "", None, 0, False):
            self.assertIs(Laid(SOME) == thing, False)
            self.assertIs(thing == Laid(SOME), False)

    def test_what_says_yes_to_everything_equals_none(self):
        class Yes:
            def __eq__(self, other):
                return True

        self.assertIs(Laid(SOME) == Yes(), False)

    def test_asking_changes_nothing(self):
        laid, other = laid_of(SOME, (1, 0)), laid_of(SOME, (1, 0))
        for turn in range(2):
            self.assertEqual(laid.row(), (1, 0))
            self.assertEqual(laid.marked(), 1)
            self.assertIsNone(laid.goes_on())
            self.assertEqual(laid.can_be_laid(), [0, 1])
            self.assertTrue(laid == other)
            self.assertEqual(len(laid), 2)


if __name__ == "__main__":
    unittest.main()
