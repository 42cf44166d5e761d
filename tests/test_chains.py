import copy
import unittest

import oracle
from anyspan.chains import chain, gain, mark_chains, marks
from anyspan.errors import NoRules, NoTold
from anyspan.fillings import filling, how_many
from anyspan.parts import longest

SOME = ((3, 1, 2),)
CLASHING = ((2, 1, 1), (3, 2, 2))
FIVE = ((1, 0, 1), (3, 1, 2), (5, 2, 3), (7, 3, 4), (8, 3, 5))
HARD = ((4, 1, 3), (5, 2, 3), (6, 2, 4), (7, 3, 4), (8, 4, 4))
NONE_TOLD = (None,) * 120

# What is no chain of any told row of ten places, by rules of spans 3 and 5.
NO_CHAINS = [
    # no list
    None, True, False, 0, 1, 5, -1, "", "chain", "01", (), (0, 1), (0, 3), ((0, 1),), 10 ** 39,
    # fewer than two seams
    [], [0], [10], [[]], [[0, 1]], [(0, 1)], [None],
    # seams out of range
    [-1, 0], [0, -1], [10, 11], [11, 10], [11, 12], [-3, 0], [0, -3], [8, 11], [11, 8], [0, 1, 0, -1], [-1, -2],
    [10 ** 39, 10 ** 39 + 1], [0, 10 ** 39], [-1, 2], [9, 12], [-5, 0, 5],
    # truths among them
    [True, 0], [0, True], [False, 1], [1, False], [False, True], [False, 3], [True, 4], [0, 3, True], [True, 2],
    # two seams alike
    [0, 0], [5, 5], [0, 1, 1, 2], [0, 3, 3], [10, 10],
    # steps of other lengths
    [0, 2], [2, 0], [0, 4], [4, 0], [0, 6], [0, 7], [0, 8], [0, 10], [10, 0], [0, 1, 3], [0, 3, 5], [0, 3, 6, 10],
    [9, 0], [1, 10],
    # other things among them
    [0, "1"], ["0", 1], [None, None], [0, None], [0, 1, None], [None, 0, 1], [0, [1]], [[0], [1]], [0, (1,)], ["", ""],
    [0, 1, "2"], [(0, 1), (1, 2)], ["a"] * 400, [None] * 400, [0] * 400, [oracle.DEEP, oracle.DEEP],
]


def is_right_chain(seams):
    return type(seams) is list and all(type(seam) is int for seam in seams)


class Gain(unittest.TestCase):
    def test_single_steps_of_rules(self):
        told = (None,) * 10
        rules = ((3, 1, 2), (5, 2, 4))
        for here in range(11):
            for there in range(11):
                wanted = {1: 0, -1: -1, 3: 1, -3: -2, 5: 2, -5: -4}.get(there - here)
                self.assertEqual(gain(rules, told, [here, there]), wanted, (here, there))

    def test_single_places_told_and_hidden(self):
        told = (None, 0, 1)
        for rules in (SOME, ((1, 0, 1),), ((2, 1, 1), (3, 1, 2)), ((8, 8, 8),)):
            self.assertEqual(gain(rules, told, [0, 1]), 0)
            self.assertEqual(gain(rules, told, [1, 2]), 0)
            self.assertEqual(gain(rules, told, [2, 3]), 1)
            self.assertEqual(gain(rules, told, [1, 0]), -1)
            self.assertEqual(gain(rules, told, [2, 1]), 0)
            self.assertEqual(gain(rules, told, [3, 2]), -1)

    def test_single_places_with_a_rule_of_span_one(self):
        told = (None, 0, 1)
        for place, part in enumerate(told):
            for rule, on, back in (
                ((1, 0, 0), 1 if part == 1 else 0, 0),
                ((1, 1, 1), 1, 0 if part == 0 else -1),
                ((1, 0, 1), 1 if part == 1 else 0, 0 if part == 0 else -1),
            ):
                self.assertEqual(gain((rule,), told, [place, place + 1]), on, (rule, part))
                self.assertEqual(gain((rule,), told, [place + 1, place]), back, (rule, part))
                self.assertEqual(gain((rule, (3, 0, 3)), told, [place, place + 1]), on)
                self.assertEqual(gain((rule, (3, 0, 3)), told, [place + 1, place]), back)

    def test_a_longer_span_is_not_asked_what_is_told(self):
        self.assertEqual(gain(((2, 1, 1),), (1, 1), [0, 2]), 1)
        self.assertEqual(gain(((2, 1, 1),), (1, 1), [0, 1, 2]), 2)
        self.assertEqual(gain(((2, 1, 1),), (0, 0), [2, 0]), -1)
        self.assertEqual(gain(((2, 1, 1),), (0, 0), [2, 1, 0]), 0)

    def test_every_step_against_the_words(self):
        for rules in (SOME, FIVE, HARD, CLASHING, ((1, 1, 1), (2, 1, 2), (8, 3, 5)), ((1, 0, 0), (4, 1, 2))):
            for told in ((None, 0, 1) * 4, (1,) * 12, (0,) * 12, (None,) * 12):
                for here in range(13):
                    for there in range(13):
                        wanted = oracle.what_step_gains(rules, told, here, there)
                        self.assertEqual(gain(rules, told, [here, there]), wanted, (rules, here, there))

    def test_it_gains_what_all_steps_gain(self):
        told = (1, None, 0, 1, None, None, 0, 1, 1, None)
        rules = ((3, 1, 2), (5, 2, 4))
        self.assertEqual(gain(rules, told, [0, 1, 4, 9, 10]), 1 + 1 + 2 + 0)
        self.assertEqual(gain(rules, told, [10, 9, 8, 5, 0]), -1 - 1 - 2 - 4)
        self.assertEqual(gain(rules, told, [0, 3, 0, 3, 0]), 2 * (1 - 2))
        self.assertEqual(gain(rules, told, [2, 3, 2]), 0)
        self.assertEqual(gain(rules, told, [0, 1] * 200), 200 * 1 - 199 * 1)
        self.assertEqual(gain(rules, told, [4, 5] * 200), -199)
        for seams in oracle.product(range(5), repeat=4):
            wanted = oracle.what_gains(rules, told[:4], list(seams))
            self.assertEqual(gain(rules, told[:4], list(seams)), wanted)

    def test_gain_is_a_whole_number(self):
        told = gain(SOME, (1, None, None), [0, 1])
        self.assertIs(type(told), int)
        self.assertEqual(gain(SOME, (None,) * 3, [0, 1]), 0)
        self.assertIsNotNone(gain(SOME, (None,) * 3, [0, 1]))

    def test_no_chain(self):
        rules = ((3, 1, 2), (5, 2, 4))
        for told in ((None,) * 10, (0, 1) * 5, (1,) * 10):
            for thing in NO_CHAINS:
                before = copy.deepcopy(thing)
                self.assertIsNone(gain(rules, told, thing), thing)
                self.assertEqual(repr(thing), repr(before))

    def test_of_anything(self):
        for thing in oracle.NONSENSE + oracle.NO_RULES + oracle.NO_ROWS + oracle.NO_TOLD + oracle.NO_PARTS:
            if thing not in ([0, 1], [1, 0], [1, 2]):
                self.assertIsNone(gain(SOME, (None,) * 10, thing), thing)

    def test_a_told_row_without_places_has_no_chain(self):
        for thing in ([0], [0, 0], [0, 1], [1, 0], [], [0, 0, 0]):
            self.assertIsNone(gain(((1, 0, 1),), (), thing))

    def test_the_last_seam(self):
        self.assertEqual(gain(SOME, NONE_TOLD, [117, 120]), 1)
        self.assertEqual(gain(SOME, NONE_TOLD, [120, 117]), -2)
        self.assertIsNone(gain(SOME, NONE_TOLD, [118, 121]))
        self.assertIsNone(gain(SOME, NONE_TOLD, [120, 121]))

    def test_nothing_handed_in_is_changed(self):
        seams = [0, 3, 4, 1]
        gain(SOME, NONE_TOLD, seams)
        self.assertEqual(seams, [0, 3, 4, 1])


class Chain(unittest.TestCase):
    def check(self, rules, told):
        seams = chain(rules, told)
        self.assertEqual(seams is None, filling(rules, told) is not None, (rules, told))
        self.assertEqual(seams is None, how_many(rules, told) > 0)
        if seams is not None:
            self.assertTrue(is_right_chain(seams))
            self.assertGreaterEqual(len(seams), 2)
            self.assertEqual(seams[0], seams[-1])
            self.assertTrue(all(0 <= seam <= len(told) for seam in seams))
            self.assertGreater(oracle.what_gains(rules, told, seams), 0, (rules, told, seams))
            self.assertEqual(gain(rules, told, seams), oracle.what_gains(rules, told, seams))

    def test_all_short_told_rows(self):
        for rules in oracle.rules_up_to(3, 2)[::2] + oracle.rules_of_spans((1, 2, 3))[::9]:
            for length in range(5):
                for told in oracle.told_rows(length):
                    self.check(rules, told)
                    self.assertEqual(chain(rules, told) is None, bool(oracle.all_fillings(rules, told)))

    def test_longer_told_rows(self):
        some = oracle.rules_up_to(4, 2)[::7] + oracle.rules_of_spans((3, 5))[::7] + [FIVE, HARD]
        for rules in some:
            for told in oracle.told_rows(8)[::83]:
                self.check(rules, told)

    def test_clashing_rules(self):
        for rules in oracle.rules_up_to(8, 2)[::61]:
            many = longest(rules)
            if many is None:
                self.check(rules, NONE_TOLD)
            else:
                self.check(rules, (None,) * many)
                self.assertIsNone(chain(rules, (None,) * many))
                self.check(rules, (None,) * (many + 1))
                self.assertIsNotNone(chain(rules, (None,) * (many + 1)))

    def test_long_told_rows(self):
        for rules in (SOME, FIVE, HARD, CLASHING, ((2, 1, 1),), ((7, 3, 3), (8, 4, 4)), ((5, 2, 2), (8, 3, 4))):
            for told in (
                NONE_TOLD, (0,) + (None,) * 118 + (0,), (0,) + (None,) * 118 + (1,), (1,) * 120, (0, 1) * 60,
                (None,) * 100 + (1,) * 5 + (None,) * 15, (None, 1) * 60, (0, None, None) * 40, (1, 0, None, None) * 30,
            ):
                self.check(rules, told)

    def test_a_long_way_round(self):
        # Only all places together show that the two told ends do not go together.
        told = (0,) + (None,) * 118 + (0,)
        seams = chain(((2, 1, 1),), told)
        self.assertGreater(gain(((2, 1, 1),), told, seams), 0)
        self.assertIn(0, seams)
        self.assertIn(120, seams)
        told = (1,) + (None,) * 118 + (1,)
        self.check(((2, 1, 1),), told)
        self.assertIsNotNone(chain(((2, 1, 1),), told))

    def test_one_place(self):
        self.check(((1, 0, 0),), (1,))
        self.check(((1, 1, 1),), (0,))
        self.check(((1, 0, 0),), (None,) * 60 + (1,))
        self.assertIsNone(chain(((1, 0, 1),), (1, 0, None)))

    def test_no_places(self):
        for rules in (SOME, FIVE, CLASHING, ((1, 1, 1),), ((8, 8, 8),)):
            self.assertIsNone(chain(rules, ()))

    def test_a_told_chain_is_the_askers_own(self):
        told = (None,) * 4
        seams = chain(CLASHING, told)
        again = list(seams)
        seams.append("mine")
        seams[0] = "mine"
        self.assertEqual(chain(CLASHING, told), again)
        self.assertIsNot(chain(CLASHING, told), chain(CLASHING, told))


class Marks(unittest.TestCase):
    def check(self, rules, told, many):
        """many holds how many marks each filling has."""
        told_marks, chains = marks(rules, told), mark_chains(rules, told)
        if not many:
            self.assertIsNone(told_marks, (rules, told))
            self.assertIsNone(chains, (rules, told))
            return
        self.assertEqual(told_marks, (min(many), max(many)), (rules, told))
        self.assertIs(type(told_marks), tuple)
        self.assertEqual(sorted(set(many)), list(range(min(many), max(many) + 1)))
        self.check_chains(rules, told, told_marks, chains)

    def check_chains(self, rules, told, told_marks, chains):
        self.assertIs(type(chains), tuple)
        on, back = chains
        self.assertTrue(is_right_chain(on) and is_right_chain(back))
        self.assertEqual((on[0], on[-1]), (0, len(told)))
        self.assertEqual((back[0], back[-1]), (len(told), 0))
        self.assertEqual(oracle.what_gains(rules, told, on), told_marks[0], (rules, told, on))
        self.assertEqual(oracle.what_gains(rules, told, back), -told_marks[1], (rules, told, back))
        if told:
            self.assertEqual(gain(rules, told, on), told_marks[0])
            self.assertEqual(gain(rules, told, back), -told_marks[1])

    def test_all_short_told_rows(self):
        for rules in oracle.rules_up_to(3, 2)[::2] + oracle.rules_of_spans((1, 2, 3))[::9]:
            for length in range(5):
                for told in oracle.told_rows(length):
                    self.check(rules, told, [sum(row) for row in oracle.all_fillings(rules, told)])

    def test_longer_told_rows(self):
        some = oracle.rules_up_to(4, 2)[::17] + oracle.rules_of_spans((3, 5))[::7] + [FIVE, HARD]
        for rules in some:
            for told in oracle.told_rows(7)[::41] + [(None,) * 10]:
                self.check(rules, told, [sum(row) for row in oracle.all_fillings(rules, told)])

    def test_long_told_rows(self):
        for rules in (SOME, FIVE, HARD, CLASHING, ((2, 1, 1),), ((5, 2, 3), (8, 3, 5)), ((8, 1, 7),)):
            for told in (
                NONE_TOLD, (0,) + (None,) * 118 + (1,), (0, None, None) * 40, (0, 1) * 60, (None,) * 118 + (1, 1),
                (None,) * 119 + (0,),
            ):
                self.check_long(rules, told)

    def check_long(self, rules, told):
        fewest_and_most = marks(rules, told)
        self.assertEqual(fewest_and_most is None, filling(rules, told) is None)
        if fewest_and_most is None:
            self.assertIsNone(mark_chains(rules, told))
            return
        self.check_chains(rules, told, fewest_and_most, mark_chains(rules, told))
        # the first filling has the fewest marks up to each place
        self.assertEqual(sum(filling(rules, told)), fewest_and_most[0])
        turned = tuple(None if part is None else 1 - part for part in told)
        self.assertEqual(120 - sum(filling(oracle.exchanged(rules), turned)), fewest_and_most[1])

    def test_plain_marks(self):
        self.assertEqual(marks(((1, 0, 1),), NONE_TOLD), (0, 120))
        self.assertEqual(marks(((1, 0, 1),), (1, None, 0)), (1, 2))
        self.assertEqual(marks(((2, 1, 1),), NONE_TOLD), (60, 60))
        self.assertEqual(marks(((2, 1, 1),), (None,) * 7), (3, 4))
        self.assertEqual(marks(SOME, NONE_TOLD), (40, 80))
        self.assertEqual(marks(SOME, (None,) * 5), (1, 4))
        self.assertEqual(marks(((8, 8, 8),), (None,) * 7), (0, 7))
        self.assertEqual(marks(((1, 0, 0),), NONE_TOLD), (0, 0))
        self.assertEqual(marks(((1, 1, 1),), NONE_TOLD), (120, 120))

    def test_none(self):
        self.assertIsNone(marks(CLASHING, (None,) * 4))
        self.assertIsNone(mark_chains(CLASHING, (None,) * 4))
        self.assertIsNone(marks(((1, 0, 0),), (1,)))
        self.assertIsNone(mark_chains(((1, 0, 0),), (1,)))
        self.assertIsNone(marks(((2, 1, 1),), (0,) + (None,) * 118 + (0,)))
        self.assertIsNone(mark_chains(((2, 1, 1),), (0,) + (None,) * 118 + (0,)))

    def test_no_places(self):
        for rules in (SOME, FIVE, CLASHING, ((1, 1, 1),), ((8, 8, 8),)):
            self.assertEqual(marks(rules, ()), (0, 0))
            self.assertEqual(mark_chains(rules, ()), ([0], [0]))

    def test_told_chains_are_the_askers_own(self):
        for told in ((), (None,) * 5):
            on, back = mark_chains(SOME, told)
            before = (list(on), list(back))
            on.append("mine")
            self.assertEqual(back, before[1])
            back.clear()
            self.assertEqual(mark_chains(SOME, told), before)


class Refusals(unittest.TestCase):
    def test_no_rules(self):
        for thing in oracle.NO_RULES + oracle.NONSENSE:
            for told in ((), (None, 1), [None], None, thing):
                for ask in (chain, marks, mark_chains):
                    with self.assertRaises(NoRules, msg=repr(thing)):
                        ask(thing, told)
                for seams in ([0, 1], None, thing):
                    with self.assertRaises(NoRules):
                        gain(thing, told, seams)

    def test_no_told(self):
        for thing in oracle.NO_TOLD + oracle.NONSENSE:
            for rules in (SOME, CLASHING):
                for ask in (chain, marks, mark_chains):
                    with self.assertRaises(NoTold, msg=repr(thing)):
                        ask(rules, thing)
                for seams in ([0, 1], None, thing, []):
                    with self.assertRaises(NoTold):
                        gain(rules, thing, seams)


if __name__ == "__main__":
    unittest.main()
