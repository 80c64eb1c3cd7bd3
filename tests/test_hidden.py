"""[7], [8], as far as hidden steps go: what hides them, by which lots, and what mends it."""

import copy
import itertools
import unittest

from tests.oracle import (GREAT, Record, built_rows, guard, helpful_changes, least_of, lossy_rows, lots, placed,
                          stand_alone, steps_of, with_changes as changed_row)
from toldatlast.errors import UnknownPlace, UnknownStep
from toldatlast.hidden import chains, first_hidden, hidden_steps, mends, with_changes
from toldatlast.programs import Program

STEP_A, STEP_B, STEP_C = ("step", "a"), ("step", "b"), ("step", "c")
AGAIN, LEAVE, HIDE, RAISE = ("again",), ("leave",), ("hide", "x"), ("raise", "x")
CATCH = [(None, [])]
# Fourteen statements, guards four deep, eight unlike names or five, five of the statements leave.
GREAT_LEAVES = [guard([STEP_A, guard([STEP_B, guard([STEP_C, guard([("step", "d")], [(["d"], [LEAVE])], [LEAVE])], [
    (["c", "f"], [LEAVE])])], [], [("hide", "g")])], [(["a", "e"], [LEAVE]), (["b", "g", "h"], [LEAVE])])]
DEEP_LEAVES = [guard([guard([guard([guard([STEP_A], [], [STEP_B, LEAVE])], [], [STEP_C, LEAVE])], [], [
    ("step", "d"), LEAVE])], [(None, [("step", "e"), LEAVE])], [LEAVE])]


def handling(*row, last=()):
    """A program in which a row handles what step a raises."""
    return [guard([STEP_A], [(None, list(row))], last)]


def forked(one, other):
    """A row whose `leave` decides which of two rows is run: the other one as it stands, the one if it is taken out."""
    inner = guard([AGAIN], [(["x"], one), (["e"], other)])
    return [guard([("raise", "e")], [(None, [guard([LEAVE, RAISE], [], [inner])])])]


def changes_of(row):
    """The places of the statements that may be changed."""
    return [place for place, statement in placed(row) if statement[0] in ("hide", "leave")]


class HiddenTest(unittest.TestCase):
    def check(self, row, expected):
        """Check the first lots, as texts, by which the steps are hidden; those that are not named never are."""
        program = Program(row)
        for step in steps_of(row):
            lot = expected[step].split() if step in expected else None
            self.assertEqual(first_hidden(program, step), lot, (row, step))
            self.assertEqual(first_hidden(program=program, name=step), lot)
        self.assertEqual(hidden_steps(program), sorted(expected))
        self.assertEqual(hidden_steps(program=program), sorted(expected))


class ByHandTest(HiddenTest):
    def test_no_steps_and_nothing_that_hides(self):
        for row in [[], [HIDE], [LEAVE], [RAISE], [guard([RAISE], [(None, [LEAVE])], [HIDE])], [STEP_A],
                    [STEP_A, STEP_B, LEAVE], [LEAVE, STEP_A], [HIDE, STEP_A], [guard([STEP_A])]]:
            self.check(row, {})

    def test_over_because_the_row_of_its_handler_ended(self):
        self.check(handling(), {})
        self.check([guard([STEP_A], CATCH), LEAVE], {})
        self.check([guard([STEP_A], CATCH), HIDE], {})
        self.check([guard([STEP_A], CATCH, [LEAVE])], {})
        self.check([guard([STEP_A], CATCH, [HIDE])], {})
        self.check([guard([guard([STEP_A], [(None, [RAISE])])], CATCH)], {})
        self.check([guard([guard([STEP_A], [(None, [AGAIN])])], CATCH)], {})
        self.check([guard([guard([STEP_A], [(None, [("from", "y")])], [RAISE])], CATCH), LEAVE], {})

    def test_lost_by_a_hide(self):
        self.check(handling(HIDE), {"a": "a"})
        self.check([guard([STEP_A], [], [HIDE])], {"a": "a"})
        self.check([guard([STEP_A], [], [RAISE])], {})
        self.check([guard([guard([STEP_A], [(None, [HIDE])])], CATCH)], {"a": "a"})
        self.check([guard([guard([STEP_A], [(None, [RAISE])])], [(None, [HIDE])])], {"a": "a"})
        self.check([guard([STEP_A], [(["a"], [HIDE])]), STEP_B], {"a": "a"})
        self.check([guard([STEP_A, STEP_B], [(["b"], [HIDE])])], {"b": "b"})

    def test_not_lost_by_a_hide_that_is_handled_within(self):
        self.check(handling(guard([HIDE], CATCH)), {})
        self.check(handling(guard([HIDE], CATCH), AGAIN), {})
        self.check(handling(guard([HIDE], CATCH), LEAVE), {"a": "a"})
        self.check(handling(guard([guard([STEP_B], [(None, [HIDE])])], CATCH), AGAIN), {"b": "a b"})

    def test_lost_by_a_leave(self):
        self.check(handling(LEAVE), {"a": "a"})
        self.check(handling(guard([LEAVE])), {"a": "a"})
        self.check(handling(guard([], [], [LEAVE])), {"a": "a"})
        self.check([guard([STEP_A], [], [LEAVE])], {"a": "a"})
        self.check([guard([STEP_A], [], [STEP_B, LEAVE])], {"a": "a"})
        self.check([guard([STEP_A], [], [LEAVE]), STEP_B], {"a": "a"})
        self.check([guard([guard([STEP_A], [], [LEAVE])], CATCH)], {"a": "a"})

    def test_lost_with_a_leaving_that_a_last_row_loses(self):
        for raised in [RAISE, HIDE]:
            self.check(handling(LEAVE, last=[raised]), {"a": "a"})
            self.check(handling(last=[raised]), {})
        self.check(handling(LEAVE, last=[STEP_B]), {"a": "a"})
        self.check(handling(LEAVE, last=[LEAVE]), {"a": "a"})
        self.check([guard([LEAVE], [], [STEP_A])], {})
        self.check([guard([LEAVE], [], [STEP_A, LEAVE])], {})
        self.check([guard([guard([LEAVE], [], [STEP_A])], [], [LEAVE])], {"a": "a"})

    def test_a_last_row_that_raises_keeps_what_was_under_way(self):
        self.check([guard([STEP_A], [], [STEP_B])], {})
        self.check([guard([guard([STEP_A], [], [STEP_B])], [(["b"], [])])], {})
        self.check([guard([guard([STEP_A], [], [STEP_B])], [(["b"], [LEAVE])])], {"a": "a b", "b": "b"})
        self.check([guard([guard([STEP_A], [], [guard([STEP_B], [(None, [HIDE])])])], CATCH)],
                   {"a": "a b", "b": "b"})

    def test_what_is_still_handled_is_not_over(self):
        self.check(handling(guard([AGAIN], CATCH), LEAVE), {"a": "a"})
        self.check(handling(guard([AGAIN], CATCH), HIDE), {"a": "a"})
        self.check(handling(guard([AGAIN], CATCH)), {})
        self.check(handling(guard([AGAIN], CATCH), AGAIN), {})
        self.check(handling(guard([STEP_B], CATCH), LEAVE), {"a": "a"})
        self.check(handling(guard([STEP_B], CATCH), AGAIN), {})
        self.check(handling(guard([STEP_B], [(None, [guard([AGAIN], CATCH), LEAVE])])), {"a": "a b", "b": "a b"})
        self.check(handling(guard([guard([STEP_B], [(None, [RAISE])])], CATCH), HIDE), {"a": "a"})

    def test_what_a_last_row_handles_is_not_over(self):
        for behind, lot in [(LEAVE, "a b"), (HIDE, "a b")]:
            self.check(handling(guard([STEP_B], [], [guard([AGAIN], CATCH), behind])), {"a": "a", "b": lot})
            self.check(handling(guard([STEP_B], [], [guard([STEP_C], CATCH), behind])), {"a": "a", "b": lot})
        self.check(handling(guard([STEP_B], [], [guard([AGAIN], CATCH), RAISE])), {})
        self.check([guard([STEP_B], [], [guard([STEP_C], CATCH), LEAVE])], {"b": "b"})
        self.check(handling(guard([guard([STEP_B], [], [guard([AGAIN], CATCH)])], CATCH)), {})

    def test_a_program_that_leaves_from_a_handler(self):
        self.check(handling(guard([STEP_B], [(None, [LEAVE])])), {"a": "a b", "b": "a b"})
        self.check([guard([STEP_A], CATCH), guard([STEP_B], [(None, [LEAVE])])], {"b": "b"})
        self.check([guard([guard([guard([STEP_B], [(None, [LEAVE])], [("raise", "y")])], CATCH)], [(None, [HIDE])])],
                   {"b": "b"})
        self.check(handling(guard([guard([STEP_B], [(None, [LEAVE])], [RAISE])], CATCH)), {"b": "a b"})

    def test_this_very_error_and_not_another_one_with_its_name(self):
        self.check([guard([guard([STEP_A], [(None, [HIDE])])], [(None, [STEP_A])])], {"a": "a"})
        self.check([guard([STEP_A], [(None, [LEAVE])], [STEP_A])], {"a": "a"})
        self.check([guard([STEP_A], [], [guard([STEP_A], [(None, [HIDE])])])], {"a": "a"})
        self.check([guard([guard([STEP_A], [(None, [("hide", "a")])])], [(["a"], [])])], {"a": "a"})
        self.check([guard([STEP_A], [(None, [("hide", "a")])])], {"a": "a"})
        self.check([guard([STEP_A], [], [STEP_A])], {})
        self.check([guard([STEP_A], CATCH), STEP_A], {})
        self.check([guard([STEP_A], CATCH), guard([STEP_A], [(None, [HIDE])])], {"a": "a"})
        self.check([guard([guard([STEP_A], [(None, [HIDE])])], CATCH), guard([STEP_A], CATCH)], {"a": "a"})

    def test_the_first_lot_by_number_then_as_lists(self):
        self.check([guard([STEP_B], [(None, [STEP_A, LEAVE])]), guard([STEP_C], [], [STEP_B])], {"b": "b"})
        row = [guard([("step", "d")], [(None, [guard([STEP_A], CATCH), guard([STEP_C], [], [STEP_B]), LEAVE])])]
        self.check(row, {"d": "d"})
        # Step c is hidden by [b, c] and by [a, d, c], so by the shorter one, which is the later one as a list.
        row = [guard([STEP_C], [(None, [
            guard([STEP_B], [(None, [LEAVE])]), guard([STEP_A], [(None, [guard([("step", "d")], [(None, [LEAVE])])])])])])]
        self.check(row, {"a": "a c d", "b": "b c", "c": "b c", "d": "a c d"})
        # By [a, c] ahead of [b, c], though b is run ahead of a.
        row = [guard([STEP_C], [(None, [guard([STEP_B], [(None, [LEAVE])]), guard([STEP_A], [(None, [LEAVE])])])])]
        self.check(row, {"a": "a c", "b": "b c", "c": "a c"})
        row = [guard([("step", "b")], [(None, [guard([("step", "ab")], [(None, [LEAVE])])])])]
        self.check(row, {"ab": "ab b", "b": "ab b"})

    def test_only_if_another_one_does_not_fail(self):
        self.check(handling(STEP_B, LEAVE), {"a": "a"})
        self.check([STEP_B, *handling(LEAVE)], {"a": "a"})
        self.check([guard([guard([STEP_B], CATCH), STEP_A], [], [guard([STEP_C], [(None, [LEAVE])])])],
                   {"a": "a c", "c": "c"})


class UnknownStepTest(unittest.TestCase):
    def test_names_that_are_no_steps(self):
        program = Program([STEP_A, guard([RAISE, HIDE], [(["y"], [("from", "z")])], [LEAVE])])
        for name in ["b", "x", "y", "z", "", "A", "a ", "aa", "~ 1"]:
            for asked in [program, Program([])]:
                with self.assertRaises(UnknownStep) as caught:
                    first_hidden(program=asked, name=name)
                self.assertIs(type(caught.exception), UnknownStep)
                self.assertEqual(caught.exception.value, name)
        self.assertIsNone(first_hidden(program, "a"))


class BuiltHiddenTest(HiddenTest):
    def test_as_records_of_the_errors_tell(self):
        some = 0
        for row in lossy_rows(800) + [GREAT, GREAT_LEAVES, DEEP_LEAVES]:
            expected = {}
            for lot in lots(steps_of(row)):
                for step in Record(row, lot).hidden():
                    expected.setdefault(step, " ".join(lot))
            self.check(row, expected)
            some += 0 < len(expected) < len(steps_of(row))
        self.assertGreater(some, 100)

    def test_each_error_is_just_one_of_over_told_and_hidden(self):
        found = {"over": 0, "told": 0, "hidden": 0}
        for row in lossy_rows(400):
            for lot in lots(steps_of(row)):
                record = Record(row, lot)
                for error in record.raised:
                    self.assertFalse(record.is_over(error) and record.is_told(error), (row, lot))
                    found["over" if record.is_over(error) else "told" if record.is_told(error) else "hidden"] += 1
        self.assertGreater(min(found.values()), 50)

    def test_without_a_hide_and_a_leave_nothing_is_hidden(self):
        for row in lossy_rows(400):
            program = Program(row)
            losing = [lot for lot in lots(steps_of(row)) if Record(row, lot).loses]
            for step in hidden_steps(program):
                self.assertIn(first_hidden(program, step), losing)
            self.assertEqual(hidden_steps(Program(changed_row(row, changes_of(row)))), [])

    def test_the_lists_are_new(self):
        program = Program(handling(LEAVE))
        first_hidden(program, "a").append("q")
        hidden_steps(program).clear()
        self.assertEqual((first_hidden(program, "a"), hidden_steps(program)), (["a"], ["a"]))
        self.assertEqual(program.row, handling(LEAVE))


class ChainsTest(unittest.TestCase):
    def test_by_hand(self):
        for row, expected in [
                ([], []), ([LEAVE, STEP_A], []), ([guard([STEP_A], CATCH)], []), ([RAISE], [[("told", "x")]]),
                ([STEP_B, STEP_A], [[("told", "a")], [("told", "b")]]),
                ([guard([STEP_A], [(None, [HIDE])]), HIDE], [[("told", "x")]]),
                ([guard([STEP_A], [], [STEP_A, LEAVE])], [[("told", "a"), ("during", "a")]]),
                ([guard([STEP_A, STEP_B], [(None, [("from", "x")])]), STEP_C],
                 [[("told", "c")], [("told", "x"), ("from", "a")], [("told", "x"), ("from", "b")]]),
                ([guard([STEP_A], [(None, [RAISE])], [STEP_B]), ("hide", "ab")],
                 [[("told", "ab")], [("told", "b")], [("told", "b"), ("during", "x"), ("during", "a")],
                  [("told", "x"), ("during", "a")]])]:
            self.assertEqual(chains(Program(row)), expected, row)
            self.assertEqual(chains(program=Program(row)), expected)

    def test_ascending_by_links(self):
        row = [guard([STEP_A], [(None, [guard([STEP_B], [(None, [("from", "x")])]), RAISE])]), ("raise", "x")]
        self.assertEqual(chains(Program(row)), [
            [("told", "x")], [("told", "x"), ("during", "a")], [("told", "x"), ("from", "b"), ("during", "a")]])

    def test_built_programs(self):
        many = 0
        for row in lossy_rows(500) + built_rows(300) + [GREAT, GREAT_LEAVES]:
            ends = [Record(row, lot).told for lot in lots(steps_of(row))]
            expected = sorted(set(tuple(end[1]) for end in ends if end[0] == "error"))
            found = chains(Program(row))
            self.assertEqual(found, [list(chain) for chain in expected])
            many += len(found) > 2
        self.assertGreater(many, 50)

    def test_the_lists_are_new(self):
        program = Program([guard([STEP_A, STEP_B], [(None, [("from", "x")])])])
        self.assertTrue(stand_alone(chains(program), chains(program)))
        chains(program)[0].clear()
        self.assertEqual(chains(program), [[("told", "x"), ("from", "a")], [("told", "x"), ("from", "b")]])


class MendsTest(unittest.TestCase):
    def check(self, row, expected):
        program = Program(row)
        self.assertEqual(mends(program), expected, row)
        self.assertEqual(mends(program=program), expected)
        self.assertEqual(program.row, row)
        for places in expected:
            self.assertEqual(hidden_steps(with_changes(program, places)), [])

    def test_nothing_to_mend(self):
        for row in [[], [STEP_A], [HIDE], [LEAVE], [STEP_A, LEAVE], handling(), handling(RAISE), handling(AGAIN, LEAVE),
                    handling(guard([HIDE], CATCH)), [guard([LEAVE], [(None, [HIDE])], [STEP_A])]]:
            self.check(row, [[]])

    def test_with_hides_alone(self):
        self.check(handling(HIDE), [[[0, 2, 0]]])
        self.check([guard(handling(HIDE), CATCH)], [[[0, 0, 0, 2, 0]]])
        self.check([guard(handling(HIDE), [(None, [("hide", "y")])])], [[[0, 0, 0, 2, 0], [0, 2, 0]]])
        self.check([guard([STEP_A], [(None, [HIDE]), (["b"], [HIDE])], [("hide", "y")])], [[[0, 1, 0], [0, 2, 0]]])
        self.check(handling(HIDE, HIDE), [[[0, 2, 0]]])
        self.check([HIDE, *handling(HIDE)], [[]])
        self.check([guard([STEP_A], CATCH, [HIDE])], [[]])

    def test_with_leaves_alone(self):
        self.check(handling(LEAVE), [[[0, 2, 0]]])
        self.check(handling(LEAVE, LEAVE), [[[0, 2, 0], [0, 2, 1]]])
        self.check(handling(LEAVE, last=[LEAVE]), [[[0, 2, 0]]])
        self.check([guard([STEP_A], [], [guard([STEP_B], [], [LEAVE]), LEAVE])], [[[0, 1, 0, 1, 0], [0, 1, 1]]])
        self.check(handling(LEAVE, AGAIN, last=[LEAVE]), [[[0, 1, 0], [0, 2, 0]]])
        self.check(handling(LEAVE, RAISE, last=[STEP_B]), [[[0, 2, 0]]])

    def test_with_both(self):
        self.check(handling(LEAVE, HIDE), [[[0, 2, 0], [0, 2, 1]]])
        self.check(handling(HIDE, LEAVE), [[[0, 2, 0]]])
        self.check(handling(HIDE, last=[LEAVE]), [[[0, 1, 0], [0, 2, 0]]])
        self.check(handling(LEAVE, last=[HIDE]), [[[0, 2, 0]]])
        self.check([guard([guard([STEP_A], [], [LEAVE])], [(None, [HIDE])])], [[[0, 0, 0, 1, 0], [0, 2, 0]]])

    def test_with_several_least_sets(self):
        leave, other = [0, 2, 0, 0, 0], [0, 2, 0, 1, 0, 3, 0]
        for inner, places in [([LEAVE], [[2, 0]]), ([HIDE], [[2, 0]]), ([LEAVE, HIDE], [[2, 0], [2, 1]])]:
            expected = [[leave], [other + place for place in places]]
            self.check(forked([], [guard([STEP_A], [(None, inner)])]), expected)
        # The one with fewer places comes first, also if it is the later one as a list.
        self.check(forked([guard([STEP_A], [(None, [HIDE])])], [guard([STEP_A], [(None, [LEAVE])])]),
                   [[other + [2, 0]], [leave, [0, 2, 0, 1, 0, 2, 0, 2, 0]]])
        self.check(forked([guard([STEP_A], [(None, [HIDE])])], []), [[]])

    def test_none_has_all_places_of_another_one(self):
        # Taking the outer leave out as well would be of no use, though its hide would then have to be a raise.
        self.check(forked([guard([STEP_A], [(None, [HIDE])])], [guard([STEP_B], [(None, [HIDE])])]),
                   [[[0, 2, 0, 1, 0, 3, 0, 2, 0]], [[0, 2, 0, 0, 0], [0, 2, 0, 1, 0, 2, 0, 2, 0]]])

    def test_by_trying_each_set_of_changes(self):
        some = 0
        for row in lossy_rows(600) + [GREAT_LEAVES, DEEP_LEAVES]:
            if len(changes_of(row)) <= 6:
                helpful = helpful_changes(row)
                self.check(row, least_of(helpful))
                self.one_least_set_for_each_choice(row, helpful)
                some += helpful[0] != []
        self.assertGreater(some, 50)

    def test_forked_rows_by_trying_each_set_of_changes(self):
        many = []
        hide = ("hide", "y")
        inner = [[], [LEAVE], [hide], [AGAIN], [LEAVE, hide], [guard([hide], CATCH)], [guard([LEAVE], [], [hide])],
                 [guard([hide], [], [LEAVE])]]
        rows = [[]] + [[guard([STEP_A], [(None, row)], last)] for row in inner for last in ([], [LEAVE], [hide])]
        for one, other in itertools.product(rows, rows):
            row = forked(one, other)
            if len(Program(row)) <= 14 and len(changes_of(row)) <= 5:
                helpful = helpful_changes(row)
                self.check(row, least_of(helpful))
                self.one_least_set_for_each_choice(row, helpful)
                many.append([len(places) for places in least_of(helpful)])
        self.assertTrue({(0,), (1, 1), (1, 2), (2, 2), (1, 3)} <= {tuple(sizes) for sizes in many}, many)

    def one_least_set_for_each_choice(self, row, helpful):
        """Check that for each choice of leaves there is at most one least set of hides."""
        program = Program(row)
        for leaves in {tuple(tuple(place) for place in some if program.at(place) == LEAVE) for some in helpful}:
            hides = [[place for place in some if program.at(place) != LEAVE] for some in helpful
                     if [place for place in some if program.at(place) == LEAVE] == [list(place) for place in leaves]]
            self.assertEqual(len(least_of(hides)), 1)

    def test_just_one_without_leaves(self):
        for row in built_rows(300, words=["hide"] * 6):
            if not any(statement == LEAVE for _, statement in placed(row)):
                self.assertEqual(len(mends(Program(row))), 1)

    def test_the_greatest_programs(self):
        for row in [GREAT_LEAVES, DEEP_LEAVES]:
            self.assertEqual(sum(statement == LEAVE for _, statement in placed(row)), 5)
            self.assertEqual(len(Program(row)), 14)
            self.assertEqual(max(len(place) for place, _ in placed(row)), 9)
            self.assertEqual(mends(Program(row)), least_of(helpful_changes(row)))
        self.assertEqual(len(Program(GREAT_LEAVES).names), 8)
        row = [guard([("step", name) for name in "abcdefgh"], [(None, [LEAVE] * 3)], [LEAVE] * 2)]
        self.assertEqual(mends(Program(row)), [[[0, 2, 0], [0, 2, 1], [0, 2, 2]]])

    def test_the_lists_are_new(self):
        program = Program(forked([], [guard([STEP_A], [(None, [LEAVE, HIDE])])]))
        self.assertTrue(stand_alone(mends(program), mends(program)))
        # The place of the last hide belongs to both sets.
        inner = forked([], [guard([STEP_A], [(None, [LEAVE])])])[0][2][0][1]
        row = [guard([("raise", "e")], [(None, [guard([STEP_B], [(["b"], [HIDE])])] + inner)])]
        found = mends(Program(row))
        self.assertEqual(found, [[[0, 2, 0, 2, 0], [0, 2, 1, 0, 0]], [[0, 2, 0, 2, 0], [0, 2, 1, 1, 0, 3, 0, 2, 0]]])
        self.assertTrue(stand_alone(found))
        nothing = mends(Program([]))
        nothing[0].append([0])
        self.assertEqual(mends(Program([])), [[]])


class WithChangesTest(unittest.TestCase):
    def unknown(self, program, places, wrong):
        before = copy.deepcopy((places, program.row))
        with self.assertRaises(UnknownPlace) as caught:
            with_changes(program, places)
        self.assertIs(type(caught.exception), UnknownPlace)
        self.assertEqual(caught.exception.value, wrong)
        self.assertTrue(stand_alone(caught.exception.value, places))
        self.assertEqual((places, program.row), before)

    def test_with_none(self):
        for row in [[], [STEP_A], handling(LEAVE), GREAT]:
            self.assertEqual(with_changes(Program(row), []), Program(row))

    def test_with_one(self):
        program = Program([HIDE, LEAVE, STEP_A, guard([HIDE], [(None, [LEAVE, HIDE])], [LEAVE])])
        for place, row in [
                ([0], [RAISE, LEAVE, STEP_A, guard([HIDE], [(None, [LEAVE, HIDE])], [LEAVE])]),
                ([1], [HIDE, STEP_A, guard([HIDE], [(None, [LEAVE, HIDE])], [LEAVE])]),
                ([3, 0, 0], [HIDE, LEAVE, STEP_A, guard([RAISE], [(None, [LEAVE, HIDE])], [LEAVE])]),
                ([3, 1, 0], [HIDE, LEAVE, STEP_A, guard([HIDE], [(None, [LEAVE, HIDE])], [])]),
                ([3, 2, 0], [HIDE, LEAVE, STEP_A, guard([HIDE], [(None, [HIDE])], [LEAVE])]),
                ([3, 2, 1], [HIDE, LEAVE, STEP_A, guard([HIDE], [(None, [LEAVE, RAISE])], [LEAVE])])]:
            self.assertEqual(with_changes(program, [place]).row, row)
            self.assertEqual(with_changes(program=program, places=[place, list(place)]).row, row)

    def test_places_are_told_ahead_of_all_changes(self):
        program = Program([LEAVE, HIDE, LEAVE, guard([LEAVE, LEAVE, HIDE], [], [LEAVE, HIDE]), LEAVE, HIDE])
        places = [[0], [1], [2], [3, 0, 0], [3, 0, 1], [3, 0, 2], [3, 1, 0], [3, 1, 1], [4], [5]]
        changed = [RAISE, guard([RAISE], [], [RAISE]), RAISE]
        for told in [places, places[::-1], places[3:] + places[:3], places + places, places[5:] + places]:
            self.assertEqual(with_changes(program, told).row, changed)
        self.assertEqual(with_changes(program, [[0], [3, 0, 0], [3, 0, 2]]).row,
                         [HIDE, LEAVE, guard([LEAVE, RAISE], [], [LEAVE, HIDE]), LEAVE, HIDE])
        self.assertEqual(with_changes(program, [[3, 0, 1], [0], [2], [0], [1], [3, 1, 1]]).row,
                         [RAISE, guard([LEAVE, HIDE], [], [LEAVE, RAISE]), LEAVE, HIDE])

    def test_a_hide_keeps_its_name(self):
        self.assertEqual(with_changes(Program([("hide", "one"), ("hide", "two")]), [[1], [0]]).row,
                         [("raise", "one"), ("raise", "two")])

    def test_built_programs(self):
        for row in lossy_rows(150):
            places = sorted(changes_of(row))
            for some in itertools.islice(itertools.chain.from_iterable(
                    itertools.combinations(places, many) for many in range(len(places) + 1)), 40):
                self.assertEqual(with_changes(Program(row), list(some)).row, changed_row(row, some))

    def test_places_of_other_statements_and_of_none(self):
        program = Program([HIDE, guard([STEP_A, RAISE], [(["a"], [AGAIN, ("from", "y"), LEAVE])], [LEAVE]), LEAVE])
        right = [[0], [1, 2, 2], [1, 1, 0], [2]]
        for wrong in [[], [1], [3], [-1], [-3], [1, 0, 0], [1, 0, 1], [1, 2, 0], [1, 2, 1], [1, 2, 3], [1, 1, 1], [1, 0],
                      [1, 3, 0], [0, 0], [0, 0, 0], [2, 0, 0], [1, -1, 0], [1, 2, -1], [0] * 16, [1, 2, 2, 0, 0],
                      [10 ** 20]]:
            self.unknown(program, [wrong], wrong)
            self.unknown(program, right + [wrong], wrong)
            self.unknown(program, [wrong] + right, wrong)
            self.unknown(program, right[:2] + [wrong, [9], []], wrong)
        self.unknown(Program([]), [[0]], [0])

    def test_twenty_places(self):
        program = Program([LEAVE] * 12 + [HIDE])
        places = [[at] for at in range(12)] + [[at] for at in range(8)]
        self.assertEqual(with_changes(program, places).row, [HIDE])
        self.unknown(program, places[:19] + [[13]], [13])

    def test_the_program_and_the_places_are_as_they_were(self):
        row = handling(LEAVE, HIDE)
        program, places = Program(row), [[0, 2, 1], [0, 2, 0], [0, 2, 1]]
        other = with_changes(program, places)
        self.assertEqual((program.row, places), (row, [[0, 2, 1], [0, 2, 0], [0, 2, 1]]))
        self.assertEqual(other.row, handling(RAISE))


if __name__ == "__main__":
    unittest.main()
