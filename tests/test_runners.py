"""[7], [8], as far as runs step by step go."""

import itertools
import random
import unittest

from tests.oracle import GREAT, Record, built_rows, guard, lossy_rows, lots, placed, stand_alone, steps_of
from toldatlast.errors import NothingToUndo, RunEnded
from toldatlast.hidden import hidden_steps, mends, with_changes
from toldatlast.programs import Program
from toldatlast.runners import CarefulRunner, Runner
from toldatlast.trees import judge, ordered_tree, tree, walk

STEP_A, STEP_B, STEP_C = ("step", "a"), ("step", "b"), ("step", "c")
AGAIN, LEAVE, HIDE, RAISE = ("again",), ("leave",), ("hide", "x"), ("raise", "x")
CATCH = [(None, [])]
LOSES_BOTH = [guard([STEP_A], [(None, [guard([STEP_B], CATCH), LEAVE])]), guard([STEP_C], [], [HIDE])]


def state(runner):
    """All that a runner tells."""
    return (runner.asks, runner.told, runner.lot, runner.done, runner.handled(), len(runner))


def answered(made, row, *answers):
    """A runner of a program that was given some answers."""
    runner = made(Program(row))
    for fails in answers:
        runner(fails)
    return runner


class RunnerTest(unittest.TestCase):
    def raises(self, kind, value, call, *arguments):
        with self.assertRaises(kind) as caught:
            call(*arguments)
        self.assertIs(type(caught.exception), kind)
        self.assertEqual(caught.exception.value, value)

    def follow(self, runner, row, lot):
        """Answer up to the end as a lot tells, and check all that is told on the way."""
        record = Record(row, lot)
        answers = {}
        for at, step in enumerate(record.done):
            if step not in answers:
                yes = sorted(name for name in answers if answers[name])
                self.assertEqual(state(runner), (step, None, yes, record.done[:at], record.handled[at], len(answers)))
                answers[step] = step in lot
                self.assertIsNone(runner(step in lot))
        yes = sorted(name for name in answers if answers[name])
        self.assertEqual(state(runner), (None, record.told, yes, record.done, None, len(answers)))


class ByHandTest(RunnerTest):
    def test_a_program_without_steps(self):
        for made in [Runner, CarefulRunner]:
            for row, told in [([], ("ended",)), ([LEAVE, STEP_A], ("left",)), ([HIDE], ("error", [("told", "x")])),
                              ([guard([RAISE], [(None, [LEAVE])], [("raise", "y")]), STEP_B], ("error", [("told", "y")]))]:
                runner = made(program=Program(row))
                self.assertEqual(state(runner), (None, told, [], [], None, 0))
                self.raises(RunEnded, 0, runner, True)
                self.raises(RunEnded, 0, runner, False)
                self.raises(NothingToUndo, 0, runner.undo)
                self.assertEqual(state(runner), (None, told, [], [], None, 0))

    def test_steps_one_after_the_other(self):
        runner = Runner(Program([STEP_B, STEP_A]))
        self.assertEqual(state(runner), ("b", None, [], [], None, 0))
        self.assertIsNone(runner(False))
        self.assertEqual(state(runner), ("a", None, [], ["b"], None, 1))
        self.assertIsNone(runner(fails=True))
        self.assertEqual(state(runner), (None, ("error", [("told", "a")]), ["a"], ["b", "a"], None, 2))

    def test_the_same_step_is_asked_once_and_run_often(self):
        row = [STEP_A, guard([STEP_A, STEP_B, STEP_A], CATCH), STEP_A, STEP_C]
        runner = Runner(Program(row))
        runner(False)
        self.assertEqual(state(runner), ("b", None, [], ["a", "a"], None, 1))
        runner(True)
        self.assertEqual(state(runner), ("c", None, ["b"], ["a", "a", "b", "a"], None, 2))
        runner(False)
        self.assertEqual(state(runner), (None, ("ended",), ["b"], ["a", "a", "b", "a", "c"], None, 3))
        runner = answered(Runner, [guard([STEP_A], [(None, [STEP_B, STEP_A])], [STEP_A])], True)
        self.assertEqual(state(runner), ("b", None, ["a"], ["a"], [("told", "a")], 1))
        runner(False)
        self.assertEqual(state(runner), (None, ("error", [("told", "a"), ("during", "a"), ("during", "a")]), ["a"],
                                         ["a", "b", "a", "a"], None, 2))

    def test_the_lot_is_ascending(self):
        runner = Runner(Program([guard([STEP_C], CATCH), guard([STEP_B], CATCH), guard([STEP_A], CATCH)]))
        for at, lot in enumerate([["c"], ["b", "c"], ["a", "b", "c"]]):
            runner(True)
            self.assertEqual((runner.lot, len(runner)), (lot, at + 1))

    def test_a_step_that_is_not_run_is_not_asked(self):
        self.assertEqual(answered(Runner, [guard([STEP_A], [(None, [STEP_B])]), STEP_C], False).asks, "c")
        self.assertEqual(answered(Runner, [guard([STEP_A], [(None, [STEP_B])]), STEP_C], True).asks, "b")
        self.assertEqual(answered(Runner, [STEP_A, STEP_B], True).asks, None)


class HandledTest(RunnerTest):
    def check(self, row, answers, chain):
        runner = answered(Runner, row, *answers)
        self.assertIsNotNone(runner.asks)
        expected = None if chain is None else [tuple(link.split()) for link in chain]
        self.assertEqual(runner.handled(), expected)

    def test_in_bodies(self):
        self.check([STEP_A], [], None)
        self.check([guard([STEP_A])], [], None)
        self.check([guard([STEP_A], CATCH), STEP_B], [True], None)
        self.check([guard([RAISE], [(None, [guard([STEP_A])])])], [], ["told x"])
        self.check([guard([guard([RAISE], CATCH), STEP_A])], [], None)

    def test_in_handlers(self):
        self.check([guard([STEP_A], [(["a"], [STEP_B])])], [True], ["told a"])
        self.check([guard([guard([STEP_A], [(["a"], [("from", "x")])])], [(["x"], [STEP_B])])], [True],
                   ["told x", "from a"])
        self.check([guard([guard([STEP_A], [(["a"], [HIDE])])], [(["x"], [STEP_B])])], [True], ["told x"])
        self.check([guard([STEP_A], [(None, [guard([RAISE], [(None, [STEP_B])])])])], [True], ["told x", "during a"])
        self.check([guard([STEP_A], [(None, [guard([RAISE], CATCH), STEP_B])])], [True], ["told a"])
        self.check([guard([STEP_A], [(None, [guard([AGAIN], [(None, [STEP_B])])])])], [True], ["told a"])

    def test_in_last_rows(self):
        self.check([guard([STEP_A], [], [STEP_B])], [True], ["told a"])
        self.check([guard([STEP_A], [], [STEP_B])], [False], None)
        self.check([guard([LEAVE], [], [STEP_B])], [], None)
        self.check([guard([STEP_A], CATCH, [STEP_B])], [True], None)
        self.check([guard([STEP_A], [(None, [RAISE])], [STEP_B])], [True], ["told x", "during a"])
        self.check([guard([STEP_A], [(None, [guard([RAISE], CATCH, [STEP_B])])])], [True], ["told a"])
        self.check([guard([STEP_A], [(None, [guard([LEAVE], [], [STEP_B])])])], [True], ["told a"])
        self.check([guard([STEP_A], [(None, [guard([RAISE], [], [STEP_B])])])], [True], ["told x", "during a"])
        self.check([guard([STEP_A], [], [guard([], [], [STEP_B])])], [True], ["told a"])

    def test_none_at_the_end(self):
        self.assertIsNone(answered(Runner, [guard([STEP_A], [(None, [AGAIN])])], True).handled())
        self.assertIsNone(answered(Runner, [guard([STEP_A], [(None, [LEAVE])])], True).handled())


class UndoTest(RunnerTest):
    def test_answers_undo_and_answers_again(self):
        row = [guard([STEP_A], [(None, [STEP_B])]), STEP_C]
        runner = Runner(Program(row))
        states = [state(runner)]
        for fails in [True, False, True]:
            runner(fails)
            states.append(state(runner))
        self.raises(RunEnded, 0, runner, False)
        for at in (2, 1, 0):
            self.assertIsNone(runner.undo())
            self.assertEqual(state(runner), states[at])
        self.raises(NothingToUndo, 0, runner.undo)
        self.assertEqual(state(runner), states[0])
        runner(False)
        self.assertEqual(state(runner), ("c", None, [], ["a"], None, 1))
        runner.undo()
        runner(True)
        self.assertEqual(state(runner), states[1])

    def test_an_answer_taken_back_counts_no_more(self):
        runner = answered(Runner, [STEP_A, guard([STEP_B], CATCH), STEP_A], False)
        runner(True)
        runner.undo()
        runner.undo()
        runner(True)
        self.assertEqual(state(runner), (None, ("error", [("told", "a")]), ["a"], ["a"], None, 1))

    def test_nothing_to_undo(self):
        for made in [Runner, CarefulRunner]:
            runner = made(Program([STEP_A]))
            self.raises(NothingToUndo, 0, runner.undo)
            self.assertEqual(state(runner), state(made(Program([STEP_A]))))
            runner(True)
            runner.undo()
            self.raises(NothingToUndo, 0, runner.undo)
            self.raises(NothingToUndo, 0, runner.undo)
            self.assertEqual(runner.asks, "a")


class EqualTest(unittest.TestCase):
    def same(self, one, other, expected):
        self.assertEqual(one == other, expected)
        self.assertEqual(other == one, expected)
        self.assertEqual(one != other, not expected)
        self.assertEqual(other != one, not expected)

    def test_by_program_and_answers(self):
        row = [guard([STEP_A], CATCH), guard([STEP_B], CATCH)]
        every = [answers for many in range(3) for answers in itertools.product([True, False], repeat=many)]
        for made in [Runner, CarefulRunner]:
            for one, other in itertools.product(every, every):
                self.same(answered(made, row, *one), answered(made, row, *other), one == other)
                self.same(answered(Runner, row, *one), answered(CarefulRunner, row, *other), False)

    def test_a_plain_one_and_a_careful_one_whichever_is_asked(self):
        plain, careful = Runner(Program([STEP_A])), CarefulRunner(Program([STEP_A]))
        self.assertIs(plain.__eq__(careful), False)
        self.assertIs(careful.__eq__(plain), False)
        self.assertIs(plain.__eq__(Runner(Program([STEP_A]))), True)

    def test_by_the_programs_and_not_by_what_they_tell(self):
        for made in [Runner, CarefulRunner]:
            for one, other in [([STEP_A], [STEP_A, STEP_A]), ([STEP_A], [STEP_A, guard()]), ([], [guard()]),
                               ([RAISE], [HIDE]), ([STEP_A], [STEP_B])]:
                self.same(made(Program(one)), made(Program(other)), False)
            program = Program([STEP_A])
            self.same(made(program), made(program), True)
            self.same(answered(made, [STEP_A], True), answered(made, [STEP_A, STEP_A], True), False)

    def test_after_undo(self):
        for made in [Runner, CarefulRunner]:
            runner, other = (answered(made, [STEP_A, STEP_B], False) for _ in range(2))
            runner(True)
            self.same(runner, other, False)
            runner.undo()
            self.same(runner, other, True)
            runner(False)
            other(True)
            self.same(runner, other, False)
            other.undo()
            other(False)
            self.same(runner, other, True)

    def test_not_equal_to_anything_else(self):
        for made in [Runner, CarefulRunner]:
            runner = answered(made, [STEP_A, STEP_B], False)
            for other in [None, 0, 1, "", "b", [], ["a"], {}, {"a": False}, Program([STEP_A, STEP_B]), runner.lot,
                          runner.done, ("left",)]:
                self.same(runner, other, False)

    def test_careful_runners_are_runners(self):
        self.assertTrue(issubclass(CarefulRunner, Runner))
        self.assertIsInstance(CarefulRunner(Program([])), Runner)
        self.assertNotIsInstance(Runner(Program([])), CarefulRunner)


class NewTest(RunnerTest):
    def test_the_lists_are_new(self):
        runner = answered(Runner, [guard([STEP_A], [(None, [STEP_B, ("from", "x")])])], True)
        before = state(runner)
        for told in [runner.lot, runner.done, runner.handled()]:
            told.append("q")
        self.assertEqual(state(runner), before)
        self.assertTrue(stand_alone(runner.lot, runner.lot, runner.done, runner.done))
        self.assertTrue(stand_alone(runner.handled(), runner.handled()))
        runner(False)
        self.assertTrue(stand_alone(runner.told, runner.told))
        runner.told[1].clear()
        self.assertEqual(runner.told, ("error", [("told", "x"), ("from", "a")]))

    def test_the_program_is_as_it_was(self):
        program = Program(LOSES_BOTH)
        one, other = Runner(program), Runner(program)
        one(True)
        self.assertEqual((program.row, state(other)), (LOSES_BOTH, state(Runner(program))))

    def test_properties_are_not_assigned(self):
        for made in [Runner, CarefulRunner]:
            for name in ["asks", "told", "lot", "done"]:
                with self.assertRaises(AttributeError):
                    setattr(made(Program([STEP_A])), name, None)


class CarefulTest(RunnerTest):
    def refuses(self, runner, fails, step):
        """Check that an answer is refused, and that nothing changes by it."""
        before = state(runner)
        self.assertEqual(runner.asks, step)
        self.raises(RunEnded, step, runner, fails)
        self.assertEqual(state(runner), before)

    def test_an_answer_by_which_the_step_itself_is_hidden(self):
        for row in [[guard([STEP_A], [(None, [HIDE])])], [guard([STEP_A], [], [LEAVE])],
                    [guard([STEP_A], [(None, [LEAVE])], [RAISE])], [guard([STEP_A], [(None, [LEAVE, STEP_B])])]]:
            runner = CarefulRunner(Program(row))
            self.refuses(runner, True, "a")
            self.raises(NothingToUndo, 0, runner.undo)
            self.assertIsNone(runner(fails=False))
            self.assertEqual((runner.lot, runner.asks, len(runner)), ([], None, 1))
            self.raises(RunEnded, 0, runner, True)
            runner.undo()
            self.refuses(runner, True, "a")

    def test_an_answer_by_which_another_one_is_hidden(self):
        runner = CarefulRunner(Program([guard([STEP_A], [(None, [STEP_B, LEAVE])])]))
        runner(True)
        self.refuses(runner, False, "b")
        runner(True)
        self.assertEqual(runner.told, ("error", [("told", "b"), ("during", "a")]))
        runner.undo()
        self.refuses(runner, False, "b")
        self.assertEqual(runner.lot, ["a"])

    def test_both_answers_while_some_lot_hides_nothing(self):
        runner = CarefulRunner(Program(LOSES_BOTH))
        self.refuses(runner, True, "a")
        runner(False)
        self.refuses(runner, True, "c")
        runner(False)
        self.assertEqual(state(runner), (None, ("error", [("told", "x")]), [], ["a", "c"], None, 2))

    def test_undo_behind_a_refused_answer(self):
        runner = answered(CarefulRunner, [STEP_B, guard([STEP_A], [], [LEAVE])], False)
        self.refuses(runner, True, "a")
        runner.undo()
        self.assertEqual(state(runner), ("b", None, [], [], None, 0))
        self.raises(NothingToUndo, 0, runner.undo)

    def test_a_plain_runner_takes_all_answers(self):
        runner = answered(Runner, [guard([STEP_A], [(None, [HIDE])])], True)
        self.assertEqual(runner.told, ("error", [("told", "x")]))

    def test_refuses_just_where_each_lot_that_agrees_hides_some_step(self):
        refused = allowed = 0
        for row in lossy_rows(300) + built_rows(100) + [GREAT, LOSES_BOTH]:
            steps = steps_of(row)
            kind = [lot for lot in lots(steps) if not Record(row, lot).hidden()]
            waiting = [[]]
            while waiting:
                answers = waiting.pop()
                runner = answered(CarefulRunner, row, *answers)
                step, lot = runner.asks, runner.lot
                if step is None:
                    self.assertIn(lot, kind)
                    continue
                known = set(runner.done) - {step}
                for fails in [True, False]:
                    now = set(lot) | ({step} if fails else set())
                    if any(set(other) & (known | {step}) == now for other in kind):
                        waiting.append([*answers, fails])
                        allowed += 1
                    else:
                        self.refuses(runner, fails, step)
                        refused += 1
        self.assertGreater(min(refused, allowed), 100)

    def test_never_stuck_and_led_to_the_end_by_just_the_lots_that_hide_nothing(self):
        for row in lossy_rows(200) + [GREAT, LOSES_BOTH]:
            for lot in lots(steps_of(row)):
                record = Record(row, lot)
                runner = CarefulRunner(Program(row))
                if not record.hidden():
                    self.follow(runner, row, lot)
                else:
                    with self.assertRaises(RunEnded) as caught:
                        self.follow(runner, row, lot)
                    self.assertEqual(caught.exception.value, runner.asks)
                    runner(runner.asks not in lot)

    def test_mended_programs_refuse_nothing(self):
        some = 0
        for row in lossy_rows(120):
            program = Program(row)
            if sum(statement == LEAVE for _, statement in placed(row)) > 5 or not hidden_steps(program):
                continue
            for places in mends(program):
                mended = with_changes(program, places)
                for lot in lots(mended.steps):
                    self.follow(CarefulRunner(mended), mended.row, lot)
                some += 1
        self.assertGreater(some, 20)


class BuiltProgramsTest(RunnerTest):
    def rows(self):
        return built_rows(250) + lossy_rows(250) + [GREAT, LOSES_BOTH]

    def test_as_a_run_with_the_lot(self):
        for row in self.rows():
            for lot in lots(steps_of(row)):
                self.follow(Runner(Program(row)), row, lot)

    def test_runners_trees_and_tells_agree(self):
        for row in self.rows():
            program = Program(row)
            grown = self.grown(Runner(program))
            self.assertEqual(grown, tree(program))
            self.assertTrue(judge(program, grown))
            for lot in lots(program.steps):
                told = program.tells(lot)
                self.assertEqual(walk(grown, lot), told)
                self.assertEqual(walk(ordered_tree(program), lot), told)

    def grown(self, runner):
        """The tree of a runner, found by answers and by taking them back."""
        step = runner.asks
        if step is None:
            return ("end", runner.told)
        branches = []
        for fails in [True, False]:
            runner(fails)
            branches.append(self.grown(runner))
            runner.undo()
        self.assertEqual(runner.asks, step)
        return ("ask", step, *branches)


class ManyCallsTest(RunnerTest):
    def walk_about(self, made, row, seed):
        """Call a runner two hundred times, and compare it with one that was given just the answers that count."""
        rng = random.Random(seed)
        program = Program(row)
        runner, answers = made(program), []
        for _ in range(200):
            before = state(runner)
            if rng.random() < 0.35:
                if answers:
                    runner.undo()
                    answers.pop()
                else:
                    self.raises(NothingToUndo, 0, runner.undo)
            else:
                fails = rng.random() < 0.5
                try:
                    runner(fails)
                    answers.append(fails)
                except RunEnded as error:
                    self.assertEqual(error.value, 0 if before[0] is None else before[0])
                    self.assertEqual(state(runner), before)
            other = answered(made, row, *answers)
            self.assertEqual(state(runner), state(other))
            self.assertTrue(runner == other)
            self.assertEqual(len(runner), len(answers))

    def test_two_hundred_calls(self):
        for seed, row in enumerate(lossy_rows(24) + built_rows(10) + [GREAT, LOSES_BOTH]):
            self.walk_about(Runner, row, seed)
            self.walk_about(CarefulRunner, row, seed)

    def test_up_and_down_a_great_program(self):
        # Eight steps in guards four deep, and each one is lost if it fails; thirteen statements.
        row = [LEAVE]
        for names in ["dh", "cg", "bf", "ae"]:
            row = [guard([("step", name) for name in names], [], row)]
        careful, plain = CarefulRunner(Program(row)), Runner(Program(row))
        for _ in range(8):
            for name in "aebfcgdh":
                self.raises(RunEnded, name, careful, True)
                careful(False)
                plain(False)
                plain.undo()
                plain(True)
                plain.undo()
                plain(False)
            self.assertEqual((careful.told, plain.told), (("left",), ("left",)))
            for _ in "aebfcgdh":
                careful.undo()
                plain.undo()
        self.assertEqual(state(careful), state(CarefulRunner(Program(row))))
        self.assertEqual(state(plain), state(Runner(Program(row))))


if __name__ == "__main__":
    unittest.main()
