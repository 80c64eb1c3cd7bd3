"""[7], [8], as far as comparisons go."""

import copy
import itertools
import random
import unittest

from tests.oracle import (GREAT, Builder, built_rows, changed, first_unlike as searched, guard, lots, names_of,
                          placed, stand_alone, steps_of, swapped, told, without)
from toldatlast.compare import alike, exchangeable, first_unlike, may_change_places, minded, needless
from toldatlast.errors import InvalidName, InvalidStatement, NothingHandled, UnknownPlace
from toldatlast.programs import Program

STEP_A, STEP_B, STEP_C = ("step", "a"), ("step", "b"), ("step", "c")
AGAIN, LEAVE = ("again",), ("leave",)
CATCH = [(None, [])]


def same_rows(row, seed):
    """Rows that are like one or nearly so, changed at one place."""
    rng = random.Random(seed)
    places = [place for place, _ in placed(row)]
    place = rng.choice(places)
    yield without(row, place)
    yield changed(row, place, lambda inner, at: inner[:at] + [guard([inner[at]])] + inner[at + 1:])
    yield changed(row, place, lambda inner, at: inner[:at] + [guard([], [], [inner[at]])] + inner[at + 1:])
    yield changed(row, place, lambda inner, at: inner[:at + 1] + inner[at:])
    yield changed(row, place, lambda inner, at: inner[:at + 1])
    hides = [place for place, statement in placed(row) if statement[0] in ("hide", "raise")]
    for place in hides[:2]:
        yield changed(row, place, lambda inner, at: inner[:at] + [("raise", inner[at][1])] + inner[at + 1:])
        yield changed(row, place, lambda inner, at: inner[:at] + [("hide", inner[at][1])] + inner[at + 1:])


class AlikeTest(unittest.TestCase):
    def check(self, one, other, lot):
        first, second = Program(one), Program(other)
        for left, right in [(first, second), (second, first)]:
            self.assertEqual(first_unlike(left, right), lot)
            self.assertEqual(first_unlike(one=left, other=right), lot)
            self.assertIs(alike(left, right), lot is None)
            self.assertIs(alike(one=left, other=right), lot is None)

    def test_pairs_that_are_alike(self):
        for one, other in [
                ([], []), ([], [guard()]), ([STEP_A], [STEP_A, STEP_A]),
                ([STEP_A], [guard([STEP_A], [(None, [AGAIN])])]),
                ([], [guard([STEP_A], CATCH)]), ([guard([STEP_A], CATCH)], [guard([STEP_B], CATCH)]),
                ([("raise", "x")], [("hide", "x")]), ([LEAVE], [LEAVE, STEP_A]),
                ([STEP_A, LEAVE], [STEP_A, LEAVE, LEAVE]),
                ([guard([STEP_A], [], [("hide", "x")])], [("raise", "x")]),
                ([guard([STEP_A], [], [LEAVE])], [guard([LEAVE], [(None, [("raise", "x")])])]),
                ([STEP_A, STEP_B, STEP_A], [STEP_A, STEP_B]),
                ([guard([STEP_A], [([], [LEAVE])])], [STEP_A])]:
            self.check(one, other, None)

    def test_pairs_that_are_not(self):
        for one, other, lot in [
                ([], [LEAVE], []), ([], [("raise", "x")], []), ([LEAVE], [("raise", "x")], []),
                ([("raise", "x")], [("raise", "y")], []), ([], [STEP_A], ["a"]), ([STEP_B], [STEP_A], ["a"]),
                ([STEP_A, STEP_B], [STEP_A], ["b"]), ([STEP_A, STEP_B], [STEP_B, STEP_A], ["a", "b"]),
                ([guard([STEP_A], [(None, [("raise", "x")])])], [guard([STEP_A], [(None, [("hide", "x")])])], ["a"]),
                ([guard([STEP_A], [(None, [("raise", "x")])])], [guard([STEP_A], [(None, [("from", "x")])])], ["a"]),
                ([guard([STEP_B], [], [STEP_A])], [guard([STEP_B], CATCH, [STEP_A])], ["b"]),
                ([guard([STEP_B], [], [STEP_A]), STEP_C], [STEP_A, STEP_B, STEP_C], ["a", "b"])]:
            self.check(one, other, lot)

    def test_the_first_lot_by_number_then_as_lists(self):
        both = [guard([STEP_B], [(None, [STEP_C])])]
        self.check(both, [guard([STEP_B], CATCH)], ["b", "c"])
        one = [guard([("step", "d")], [(None, [("raise", "x")])]), guard([STEP_A], [(None, [STEP_B])])]
        other = [guard([("step", "d")], [(None, [("hide", "x")])]), guard([STEP_A], CATCH)]
        self.check(one, other, ["d"])
        self.check([guard([STEP_B], [(None, [("step", "ab")])])], [], ["ab", "b"])
        three = [guard([STEP_A], [(None, [guard([STEP_C], [(None, [STEP_B])])])])]
        self.check(three, [], ["a", "b", "c"])
        two = [guard([STEP_A], [(None, [("step", "d")])]), guard([STEP_B], [(None, [STEP_C])])]
        self.check(two, [], ["a", "d"])

    def test_each_one_minds_the_steps_that_it_has(self):
        self.check([STEP_A], [STEP_A, guard([STEP_B], CATCH)], None)
        self.check([STEP_A], [STEP_A, STEP_B], ["b"])
        self.check([("raise", "b")], [STEP_B, ("raise", "b")], None)

    def test_built_pairs(self):
        rows = built_rows(300) + built_rows(40, first=10 ** 6, letters="abcdefgh", most=14, depth=4)
        pairs = [(row, other) for seed, row in enumerate(rows) for other in same_rows(row, seed)]
        pairs += list(zip(rows, rows[1:]))
        found = []
        for one, other in pairs:
            lot = searched(one, other)
            found.append(lot)
            self.assertEqual(first_unlike(Program(one), Program(other)), lot, (one, other))
            self.assertIs(alike(Program(one), Program(other)), lot is None)
        self.assertGreater(found.count(None), 100)
        self.assertTrue(all(sum(lot is not None and len(lot) == many for lot in found) > 3 for many in range(3)))

    def test_eight_unlike_steps_together(self):
        names = "abcdefgh"
        one, other = [], []
        for name in names:
            one = [guard([("step", name)], [(None, one)])]
            other = [guard([("step", name)], [(None, other or [LEAVE])])]
        self.assertEqual(first_unlike(Program(one), Program(other)), list(names))
        four = [[("step", name) for name in part] for part in ("abcd", "efgh")]
        self.assertEqual(first_unlike(Program(four[0]), Program(four[1])), ["a"])
        self.assertTrue(alike(Program(GREAT), Program(copy.deepcopy(GREAT))))

    def test_the_lot_is_new_and_the_programs_are_as_they_were(self):
        one, other = Program([STEP_A]), Program([STEP_B])
        first_unlike(one, other).append("q")
        self.assertEqual(first_unlike(one, other), ["a"])
        self.assertEqual((one.row, other.row, one.steps), ([STEP_A], [STEP_B], ["a"]))


class NeedlessTest(unittest.TestCase):
    def test_by_hand(self):
        for row, places in [
                ([], []), ([STEP_A], []), ([STEP_A, STEP_A], [[0], [1]]), ([guard()], [[0]]),
                ([LEAVE, STEP_A], [[1]]), ([LEAVE, LEAVE], [[0], [1]]),
                ([guard([STEP_A], [(None, [STEP_B])], [LEAVE])], [[0, 0, 0], [0, 2, 0]]),
                ([guard([STEP_A], [(["a"], [AGAIN])]), STEP_A], [[0], [0, 0, 0], [0, 2, 0], [1]]),
                ([guard([STEP_A], [(None, [LEAVE])], [STEP_B]), LEAVE], [[0, 0, 0], [0, 2, 0]]),
                ([guard([guard([STEP_A], [([], [AGAIN])], [])])], [[0, 0, 0, 2, 0]])]:
            self.assertEqual(needless(Program(row)), places, row)
            self.assertEqual(needless(program=Program(row)), places)

    def test_built_programs(self):
        some = 0
        for row in built_rows(250) + built_rows(20, first=10 ** 6, letters="abcdefgh", most=14, depth=4):
            expected = sorted(place for place, _ in placed(row) if searched(row, without(row, place)) is None)
            self.assertEqual(needless(Program(row)), expected)
            some += 0 < len(expected) < len(list(placed(row)))
        self.assertGreater(some, 50)

    def test_a_great_program(self):
        expected = sorted(place for place, _ in placed(GREAT) if searched(GREAT, without(GREAT, place)) is None)
        self.assertEqual(needless(Program(GREAT)), expected)
        self.assertEqual(len(Program(GREAT)), 14)

    def test_the_lists_are_new(self):
        program = Program([guard([STEP_A], CATCH), guard()])
        places = needless(program)
        self.assertTrue(stand_alone(places, needless(program)))
        places[0].append(9)
        self.assertEqual(needless(program), [[0], [0, 0, 0], [1]])


class MayChangePlacesTest(unittest.TestCase):
    def test_by_hand(self):
        for row, place, expected in [
                ([STEP_A, STEP_B], [0], False), ([STEP_A, STEP_A], [0], True), ([STEP_A, guard()], [0], True),
                ([guard([STEP_A], CATCH), STEP_B], [0], True), ([LEAVE, LEAVE, STEP_A], [1], True),
                ([LEAVE, STEP_A], [0], False), ([guard([STEP_A, STEP_B], CATCH)], [0, 0, 0], True),
                ([guard([], [], [STEP_A, LEAVE])], [0, 1, 0], False),
                ([guard([STEP_A], [(["b"], []), (None, [STEP_B, AGAIN])])], [0, 3, 0], False),
                ([guard([STEP_A], [(["b"], [STEP_B, AGAIN]), (None, [])])], [0, 2, 0], True)]:
            self.assertIs(may_change_places(Program(row), place), expected, row)
            self.assertIs(may_change_places(program=Program(row), place=place), expected)

    def test_built_programs(self):
        answers = []
        for row in built_rows(250) + [GREAT]:
            program = Program(row)
            places = [place for place, _ in placed(row)]
            for place in places:
                if [*place[:-1], place[-1] + 1] in places:
                    answers.append(may_change_places(program, place))
                    self.assertIs(answers[-1], searched(row, swapped(row, place)) is None)
                else:
                    self.unknown(program, place)
            self.assertEqual(program.row, row)
        self.assertGreater(min(answers.count(True), answers.count(False)), 30)

    def unknown(self, program, place):
        before = list(place)
        with self.assertRaises(UnknownPlace) as caught:
            may_change_places(program, place)
        self.assertIs(type(caught.exception), UnknownPlace)
        self.assertEqual(caught.exception.value, before)
        self.assertIsNot(caught.exception.value, place)
        self.assertEqual(place, before)

    def test_the_last_statement_of_a_row(self):
        program = Program([STEP_A, guard([STEP_A, STEP_B], [(None, [AGAIN, STEP_C])], [LEAVE])])
        for place in [[1], [1, 0, 1], [1, 1, 0], [1, 2, 1]]:
            self.unknown(program, place)

    def test_no_place(self):
        program = Program([STEP_A, guard([STEP_A, STEP_B], [(None, [AGAIN, STEP_C])], [LEAVE]), STEP_B])
        for place in [[], [3], [-1], [-2], [0, 0], [1, 0], [0, 0, 0], [1, 0, 2], [1, 0, -1], [1, 0, -2], [1, 3, 0],
                      [1, -1, 0], [1, 0, 0, 0, 0], [1] * 16, [0] * 15, [-3, 0, 0], [10 ** 20]]:
            self.unknown(program, place)
            self.unknown(Program([]), place)


class MindedTest(unittest.TestCase):
    def test_by_hand(self):
        for row, steps in [
                ([], []), ([("raise", "x")], []), ([STEP_B, STEP_A], ["a", "b"]), ([guard([STEP_A], CATCH)], []),
                ([LEAVE, STEP_A], []), ([guard([STEP_A, STEP_C], CATCH, [STEP_B])], ["b"]),
                ([guard([STEP_A], [(["b"], [STEP_B])])], ["a"]),
                ([guard([STEP_C], [], [STEP_A, LEAVE])], ["a", "c"]),
                ([guard([STEP_C], [], [guard([STEP_A], CATCH), LEAVE])], []),
                ([guard([STEP_C], [(None, [("raise", "c")])])], ["c"]),
                ([guard([STEP_A], [(None, [("hide", "x")])]), ("raise", "x")], [])]:
            self.assertEqual(minded(Program(row)), steps, row)
            self.assertEqual(minded(program=Program(row)), steps)

    def test_built_programs(self):
        some = 0
        for row in built_rows(400) + built_rows(40, first=10 ** 6, letters="abcdefgh", most=14, depth=4) + [GREAT]:
            steps = steps_of(row)
            expected = [step for step in steps
                        if any(told(row, lot) != told(row, lot + [step]) for lot in lots(steps) if step not in lot)]
            self.assertEqual(minded(Program(row)), expected)
            some += 0 < len(expected) < len(steps)
        self.assertGreater(some, 50)


def handlers_for(row, names):
    """Programs in which a row handles errors of each name, alone and behind another one, in the simplest way."""
    for name in names:
        yield [guard([("raise", name)], [(None, row)])]
        yield [guard([guard([("raise", "other")], [(None, [("raise", name)])])], [(None, row)])]


class ExchangeableTest(unittest.TestCase):
    def check(self, one, other, expected):
        before = copy.deepcopy((one, other))
        self.assertIs(exchangeable(one, other), expected, (one, other))
        self.assertIs(exchangeable(one=other, other=one), expected)
        self.assertEqual((one, other), before)

    def test_rows_that_are(self):
        for one, other in [
                ([], []), ([], [guard()]), ([AGAIN], [guard([AGAIN], [(None, [AGAIN])])]), ([AGAIN], [AGAIN, STEP_A]),
                ([STEP_A, LEAVE], [STEP_A, LEAVE, ("raise", "b")]),
                ([("hide", "x")], [guard([STEP_A], [], [("hide", "x")])]),
                ([], [guard([STEP_A, ("from", "x")], CATCH)]), ([guard([STEP_B], CATCH)], [guard([STEP_A], CATCH)]),
                ([("from", "x")], [guard([], [], [("from", "x")])]),
                ([guard([AGAIN], [(["x"], [AGAIN])])], [AGAIN]),
                ([guard([("raise", "x")], [(["x"], [LEAVE])])], [LEAVE]),
                ([STEP_A, STEP_B, STEP_A], [STEP_A, STEP_B])]:
            self.check(one, other, True)

    def test_rows_that_are_not(self):
        for one, other in [
                ([], [LEAVE]), ([], [AGAIN]), ([], [STEP_A]), ([STEP_A], [STEP_B]),
                ([STEP_A, STEP_B], [STEP_B, STEP_A]), ([("raise", "x")], [("from", "x")]),
                ([("raise", "x")], [("hide", "x")]), ([("from", "x")], [("hide", "x")]),
                ([AGAIN], [("raise", "x")]), ([AGAIN], [LEAVE]), ([("raise", "x")], [("raise", "y")]),
                ([guard([STEP_A], [], [("raise", "x")])], [("raise", "x")])]:
            self.check(one, other, False)

    def test_alike_in_the_handlers_of_most_names(self):
        for inner in [[], [LEAVE], [("hide", "x")], [("from", "y")]]:
            self.check([guard([AGAIN], [(["x"], inner)])], [AGAIN], False)
            self.check([guard([AGAIN], [(["y", "x"], inner)])], [guard([AGAIN], [(["x", "y"], inner)])], True)
            self.check([guard([AGAIN], [(["x"], inner), (["y"], inner)])],
                       [guard([AGAIN], [(["x", "y"], inner)])], True)
            self.check([guard([AGAIN], [(["x"], inner)])], [guard([AGAIN], [(["y"], inner)])], False)
            self.check([guard([AGAIN], [(["x"], [AGAIN]), (None, inner)])], [guard([AGAIN], [(None, inner)])], False)

    def test_alike_for_the_names_of_the_rows_but_for_no_other(self):
        one = [guard([AGAIN], [(["x"], [LEAVE]), (None, [("hide", "y")])])]
        self.check(one, [guard([AGAIN], [(["x"], [LEAVE]), (["y"], [("hide", "y")])])], False)
        self.check([guard([AGAIN], [(["x"], [LEAVE])])], [guard([AGAIN], [(None, [LEAVE])])], False)

    def test_an_error_that_only_looks_like_the_handled_one(self):
        self.check([guard([AGAIN], [(["x"], [("hide", "x")])])], [AGAIN], False)
        self.check([guard([AGAIN], [(["x"], [("raise", "y")])])],
                   [guard([AGAIN], [(["x"], [guard([("hide", "x")], [(None, [("raise", "y")])])])])], False)
        looks = [guard([guard([("hide", "y")], [(None, [("raise", "x")])])], [(None, [AGAIN])])]
        self.check([guard([AGAIN], [(["x"], looks)])], [AGAIN], False)

    def test_errors_of_the_first_row_then_of_the_other(self):
        wrong = [(InvalidStatement, [0], [()]), (InvalidStatement, [1], [AGAIN, ("stop",)]),
                 (InvalidName, "A", [("from", "A")]), (InvalidName, "", [guard([], [([""], [()])])]),
                 (InvalidStatement, [0, 2, 1], [guard([], [([], [LEAVE, ()])])]),
                 (InvalidStatement, [0, 1, 0], [guard([], [], [("again", "x")])])]
        for (kind, value, row), (_, _, beside) in itertools.product(wrong, wrong):
            for one, other in [(row, beside), (row, []), ([AGAIN], row)]:
                before = copy.deepcopy((one, other))
                with self.assertRaises(kind) as caught:
                    exchangeable(one, other)
                self.assertIs(type(caught.exception), kind)
                self.assertEqual(caught.exception.value, value)
                self.assertEqual((one, other), before)

    def test_again_and_from_stand_at_each_place(self):
        for statement in [AGAIN, ("from", "x")]:
            for row in [[statement], [guard([statement])], [guard([], [], [guard([statement])])]]:
                with self.assertRaises(NothingHandled):
                    Program(row)
                self.check(row, row, True)

    def test_built_rows(self):
        answers = []
        for seed in range(260):
            row = Builder(seed, letters="abc", most=8, depth=2).row(handled=True)
            if not row:
                continue
            for other in same_rows(row, seed):
                names = sorted(set(names_of(row) + names_of(other))) + ["new"]
                expected = all(searched(left, right) is None
                               for left, right in zip(handlers_for(row, names), handlers_for(other, names)))
                self.check(row, other, expected)
                answers.append((row, other, expected))
        self.assertGreater(min(sum(a[2] for a in answers), sum(not a[2] for a in answers)), 100)
        self.in_built_programs([(row, other) for row, other, expected in answers if expected])

    def in_built_programs(self, pairs):
        """Let one row stand for the other one at places of built programs."""
        rng = random.Random(7)
        contexts = [row for row in built_rows(300) if any(in_handler(place) for place, _ in placed(row))]
        for one, other in pairs:
            for context in rng.sample(contexts, 3):
                for place in [place for place, _ in placed(context) if in_handler(place)]:
                    first = changed(context, place, lambda inner, at: inner[:at] + one + inner[at:])
                    second = changed(context, place, lambda inner, at: inner[:at] + other + inner[at:])
                    self.assertIsNone(searched(first, second))

    def test_the_greatest_rows(self):
        one, other = great_handler("abcdef"), great_handler("ghijkl")
        self.check(one, one[:-1] + [guard([], [], one[-1:])], True)
        self.check(one, one[:-1], False)
        self.check(one, other, False)
        self.check(other, other[1:], False)


def great_handler(names):
    """A row of twelve statements that may stand in a handler, with guards three deep and six names."""
    steps = [("step", name) for name in names]
    inner = guard([steps[3], AGAIN], [(list(names), [steps[4]])])
    return [steps[0], guard([steps[1], guard([steps[2], inner], [(names[:1], [LEAVE])])], [], [steps[5]]), steps[3]]


def in_handler(place):
    """Tell whether a place is within a handler."""
    return any(part >= 2 for part in place[1::2])


if __name__ == "__main__":
    unittest.main()
