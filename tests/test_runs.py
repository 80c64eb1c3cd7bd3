"""[5], [6], [7]: what is run, what is told at last, and by which chain."""

import copy
import unittest

from tests.oracle import built_rows, great_row, guard, lots, observe, stand_alone, steps_of
from toldatlast.errors import UnknownStep
from toldatlast.programs import Program

STEP_A, STEP_B, STEP_C = ("step", "a"), ("step", "b"), ("step", "c")
ENDED, LEFT, AGAIN, LEAVE = ("ended",), ("left",), ("again",), ("leave",)


def error(*links):
    """What is told at last, for links as "told a"."""
    return ("error", [tuple(link.split()) for link in links])


class RunsTest(unittest.TestCase):
    def check(self, row, expected):
        """Check what is told, and run, for each lot, given by its names with spaces between."""
        program = Program(row)
        for names, (told, done) in expected.items():
            lot = names.split()
            self.assertEqual((program.tells(lot), program.run(lot)), (told, done.split()), names)


class RowsTest(RunsTest):
    def test_steps(self):
        self.check([], {"": (ENDED, "")})
        self.check([STEP_A], {"": (ENDED, "a"), "a": (error("told a"), "a")})
        self.check([STEP_A, STEP_B, STEP_A], {
            "": (ENDED, "a b a"), "a": (error("told a"), "a"), "b": (error("told b"), "a b"),
            "b a": (error("told a"), "a")})

    def test_each_statement_that_raises_or_leaves(self):
        for word in ["raise", "hide"]:
            self.check([STEP_A, (word, "x"), STEP_B], {
                "": (error("told x"), "a"), "a": (error("told a"), "a"), "b": (error("told x"), "a")})
        self.check([STEP_A, LEAVE, STEP_B], {"": (LEFT, "a"), "a": (error("told a"), "a"), "b": (LEFT, "a")})

    def test_errors_and_steps_have_names_of_one_kind(self):
        self.check([guard([("raise", "b"), STEP_B], [(["b"], [STEP_A])])], {
            "": (ENDED, "a"), "b": (ENDED, "a"), "a b": (error("told a", "during b"), "a")})

    def test_a_step_fails_each_time(self):
        self.check([guard([STEP_A], [(None, [])]), guard([STEP_A], [(["a"], [STEP_A])])], {
            "": (ENDED, "a a"), "a": (error("told a", "during a"), "a a a")})


class HandlersTest(RunsTest):
    def test_the_first_handler_that_has_the_name(self):
        row = [guard([STEP_A, STEP_B, STEP_C],
                     [(["x"], [("raise", "first")]), (["b", "a"], [("hide", "second")]), (["a"], [("hide", "third")]),
                      (None, [("hide", "fourth")]), (["c"], [("hide", "fifth")])])]
        self.check(row, {"": (ENDED, "a b c"), "a": (error("told second"), "a"), "b": (error("told second"), "a b"),
                         "c": (error("told fourth"), "a b c")})

    def test_a_handler_of_no_names(self):
        self.check([guard([STEP_A], [([], [LEAVE])])], {"a": (error("told a"), "a"), "": (ENDED, "a")})

    def test_no_handler_for_the_error(self):
        self.check([guard([STEP_A], [(["b"], [LEAVE])], [STEP_C]), STEP_B], {
            "a": (error("told a"), "a c"), "a c": (error("told c", "during a"), "a c"),
            "b": (error("told b"), "a c b")})

    def test_a_handler_that_ends(self):
        self.check([guard([STEP_A, STEP_B], [(None, [STEP_C])], [("step", "d")]), ("step", "e")], {
            "": (ENDED, "a b d e"), "a": (ENDED, "a c d e"), "b": (ENDED, "a b c d e"),
            "a e": (error("told e"), "a c d e"), "a d": (error("told d"), "a c d")})

    def test_each_statement_in_a_handler(self):
        for statement, told in [
                (("raise", "x"), error("told x", "during a")), (("from", "x"), error("told x", "from a")),
                (("hide", "x"), error("told x")), (AGAIN, error("told a")), (LEAVE, LEFT)]:
            self.check([guard([STEP_A], [(["a"], [statement, STEP_B])], [STEP_C]), STEP_B],
                       {"a": (told, "a c"), "a b": (told, "a c"), "": (ENDED, "a c b")})

    def test_a_step_that_fails_in_a_handler(self):
        self.check([guard([STEP_A], [(["a"], [STEP_B])])], {
            "a": (ENDED, "a b"), "b": (ENDED, "a"), "a b": (error("told b", "during a"), "a b")})

    def test_a_handler_does_not_handle_what_it_or_its_neighbour_raises(self):
        self.check([guard([STEP_A], [(["a"], [("raise", "x")]), (["x"], [LEAVE]), (None, [LEAVE])])],
                   {"a": (error("told x", "during a"), "a")})
        self.check([guard([STEP_A], [(None, [AGAIN])]), STEP_B], {"a": (error("told a"), "a"), "": (ENDED, "a b")})

    def test_a_leaving_is_not_handled(self):
        self.check([guard([LEAVE], [(None, [("hide", "x")])], [STEP_A]), STEP_B],
                   {"": (LEFT, "a"), "a": (error("told a"), "a")})

    def test_an_error_of_the_last_row_is_not_handled_by_its_guard(self):
        self.check([guard([], [(None, [LEAVE])], [STEP_A])], {"a": (error("told a"), "a")})
        self.check([guard([guard([], [], [STEP_A])], [(["a"], [LEAVE])], [])], {"a": (LEFT, "a")})

    def test_an_outer_handler_takes_what_an_inner_one_raises(self):
        row = [guard([guard([STEP_A], [(["a"], [("from", "x")])])], [(["x"], [("from", "y")]), (["a"], [LEAVE])])]
        self.check(row, {"a": (error("told y", "from x", "from a"), "a"), "": (ENDED, "a")})

    def test_handled_until_the_row_of_the_handler_ends(self):
        row = [guard([STEP_A], [(None, [guard([STEP_B], [(None, [])]), ("raise", "x")])])]
        self.check(row, {"a": (error("told x", "during a"), "a b"), "a b": (error("told x", "during a"), "a b")})
        row = [guard([STEP_A], [(None, [])]), STEP_B]
        self.check(row, {"a b": (error("told b"), "a b")})

    def test_again_within_a_guard_in_a_handler(self):
        row = [guard([STEP_A], [(None, [guard([AGAIN], [(["a"], [("from", "x")])], [])])])]
        self.check(row, {"a": (error("told x", "from a"), "a")})
        row = [guard([STEP_A], [(None, [guard([STEP_B], [(["b"], [AGAIN])], []), AGAIN])])]
        self.check(row, {"a b": (error("told b", "during a"), "a b"), "a": (error("told a"), "a b")})


class LastRowsTest(RunsTest):
    def test_run_in_any_case(self):
        for body, told in [([], ENDED), ([("raise", "x")], error("told x")), ([LEAVE], LEFT)]:
            self.check([guard(body, [], [STEP_A])], {"": (told, "a")})
            self.check([guard([guard(body, [], [STEP_A])], [], [STEP_B])], {"": (told, "a b")})

    def test_nothing_behind_the_guard_is_run_while_something_is_under_way(self):
        self.check([guard([STEP_A], [], []), STEP_B], {"a": (error("told a"), "a"), "": (ENDED, "a b")})
        self.check([guard([LEAVE], [], []), STEP_B], {"b": (LEFT, "")})

    def test_each_statement_in_place_of_an_error(self):
        for statement, told in [(("raise", "x"), error("told x", "during a")), (("hide", "x"), error("told x")),
                                (LEAVE, LEFT)]:
            self.check([guard([STEP_A], [], [statement, STEP_B]), STEP_B], {"a": (told, "a"), "a b": (told, "a")})

    def test_each_statement_in_place_of_a_leaving(self):
        for statement, told in [(("raise", "x"), error("told x")), (("hide", "x"), error("told x")), (LEAVE, LEFT)]:
            self.check([guard([LEAVE], [], [statement, STEP_B]), STEP_B], {"": (told, ""), "b": (told, "")})

    def test_each_statement_in_place_of_what_follows(self):
        for statement, told in [(("raise", "x"), error("told x")), (("hide", "x"), error("told x")), (LEAVE, LEFT)]:
            self.check([guard([STEP_A], [], [statement]), STEP_B], {"": (told, "a"), "b": (told, "a")})

    def test_each_statement_in_place_of_an_error_in_a_handler(self):
        # What is under way there was raised while another error was being handled, so there is a chain to keep.
        for statement, told in [
                (("raise", "x"), error("told x", "during b", "during a")),
                (("from", "x"), error("told x", "from b", "during a")), (("hide", "x"), error("told x")),
                (AGAIN, error("told b", "during a")), (LEAVE, LEFT)]:
            self.check([guard([STEP_A], [(None, [guard([STEP_B], [], [statement])])])], {"a b": (told, "a b")})

    def test_otherwise_the_one_ahead_of_the_guard_is_handled(self):
        for body, lot in [([STEP_B], "a"), ([LEAVE], "a"), ([guard([STEP_B], [(None, [])])], "a b"),
                          ([guard([STEP_B], [(None, [LEAVE])])], "a b")]:
            for statement, told in [
                    (("raise", "x"), error("told x", "during a")), (("from", "x"), error("told x", "from a")),
                    (("hide", "x"), error("told x")), (AGAIN, error("told a")), (STEP_A, error("told a", "during a"))]:
                program = Program([guard([STEP_A], [(None, [guard(body, [], [statement])])])])
                self.assertEqual(program.tells(lot.split()), told)

    def test_an_error_that_was_handled_is_not_under_way(self):
        self.check([guard([STEP_A], [(None, [])], [STEP_B])], {"a b": (error("told b"), "a b")})
        self.check([guard([STEP_A], [(None, [LEAVE])], [STEP_B])],
                   {"a b": (error("told b"), "a b"), "a": (LEFT, "a b")})

    def test_an_error_of_a_handler_is_under_way(self):
        self.check([guard([STEP_A], [(None, [("from", "x")])], [STEP_B])],
                   {"a b": (error("told b", "during x", "from a"), "a b"), "a": (error("told x", "from a"), "a b")})
        self.check([guard([STEP_A], [(None, [AGAIN])], [STEP_B])], {"a b": (error("told b", "during a"), "a b")})
        self.check([guard([STEP_A], [(None, [("hide", "x")])], [STEP_B])],
                   {"a b": (error("told b", "during x"), "a b")})

    def test_the_last_row_of_an_error_may_handle_its_own_errors(self):
        self.check([guard([STEP_A], [], [guard([STEP_B], [(["b"], [("from", "x")])])])], {
            "a b": (error("told x", "from b", "during a"), "a b"), "a": (error("told a"), "a b"), "b":
            (error("told x", "from b"), "a b")})
        self.check([guard([STEP_A], [], [guard([STEP_B], [(["b"], [])]), STEP_C])], {
            "a b": (error("told a"), "a b c"), "a b c": (error("told c", "during a"), "a b c")})

    def test_last_rows_within_last_rows(self):
        row = [guard([STEP_A], [], [guard([STEP_B], [], [guard([STEP_C], [], [("raise", "x")])])])]
        self.check(row, {
            "a b c": (error("told x", "during c", "during b", "during a"), "a b c"),
            "a b": (error("told x", "during b", "during a"), "a b c"),
            "a c": (error("told x", "during c", "during a"), "a b c"), "a": (error("told x", "during a"), "a b c"),
            "c": (error("told x", "during c"), "a b c"), "": (error("told x"), "a b c")})
        row = [guard([STEP_A], [], [guard([STEP_B], [], [guard([], [], [STEP_C]), LEAVE])])]
        self.check(row, {"a b": (LEFT, "a b c"), "a b c": (error("told c", "during b", "during a"), "a b c")})


class ChainsTest(RunsTest):
    def test_a_chain_over_several_errors(self):
        row = [guard([STEP_A], [(None, [guard([STEP_B], [(None, [guard([STEP_C], [(None, [("from", "x")])])])])])])]
        self.check(row, {
            "a b c": (error("told x", "from c", "during b", "during a"), "a b c"), "a b": (ENDED, "a b c"),
            "b c": (ENDED, "a")})

    def test_only_the_first_word_changes(self):
        row = [guard([guard([guard([STEP_A], [(None, [("from", "b")])])], [(None, [("raise", "c")])])],
                     [(None, [("from", "d")])])]
        self.check(row, {"a": (error("told d", "from c", "during b", "from a"), "a")})

    def test_nothing_behind_what_hides(self):
        row = [guard([guard([STEP_A], [(None, [("hide", "x")])])], [(["x"], [("raise", "y")])])]
        self.check(row, {"a": (error("told y", "during x"), "a")})

    def test_raised_again_with_the_chain_as_it_was(self):
        row = [guard([guard([STEP_A], [(None, [("from", "x")])])], [(None, [guard([STEP_B], [(None, [])]), AGAIN])])]
        self.check(row, {"a b": (error("told x", "from a"), "a b")})
        row = [guard([STEP_A], [(None, [guard([STEP_B], [], [guard([AGAIN], [(["b"], [("from", "x")])])])])])]
        self.check(row, {"a b": (error("told x", "from b", "during a"), "a b"), "a": (error("told a"), "a b")})

    def test_again_of_an_outer_error_behind_an_inner_one(self):
        row = [guard([STEP_A], [(None, [guard([STEP_B], [(["b"], [])], [AGAIN])])])]
        self.check(row, {"a b": (error("told a"), "a b")})
        row = [guard([STEP_A], [(None, [guard([STEP_B], [(["c"], [])], [AGAIN])])])]
        self.check(row, {"a b": (error("told b", "during a"), "a b")})

    def test_an_error_that_one_of_its_own_name_follows(self):
        row = [guard([STEP_A], [(["a"], [guard([STEP_A], [(["a"], [("from", "a")])])])])]
        self.check(row, {"a": (error("told a", "from a", "during a"), "a a")})


class LotsTest(unittest.TestCase):
    def test_the_first_name_that_is_no_step(self):
        program = Program([STEP_A, guard([("raise", "x")], [(["y"], [STEP_B])])])
        for asked in [program.tells, program.run]:
            for lot, name in [(["x"], "x"), (["y"], "y"), (["a", "q", "x"], "q"), (["zz", "b", "q"], "zz"),
                              (["a", "b", ""], ""), (["A"], "A"), (["~ 1"], "~ 1")]:
                before = list(lot)
                with self.assertRaises(UnknownStep) as caught:
                    asked(lot=lot)
                self.assertIs(type(caught.exception), UnknownStep)
                self.assertEqual(caught.exception.value, name)
                self.assertEqual(lot, before)
        with self.assertRaises(UnknownStep):
            Program([]).tells(["a"])

    def test_a_lot_in_any_order_and_of_steps_that_are_not_run(self):
        program = Program([STEP_B, LEAVE, STEP_A])
        self.assertEqual(program.tells(["b", "a"]), program.tells(["a", "b"]))
        self.assertEqual((program.tells(lot=["a"]), program.run(lot=["a"])), (LEFT, ["b"]))

    def test_what_is_told_is_new(self):
        program = Program([guard([STEP_A], [(None, [("from", "x")])])])
        one, other = program.tells(["a"]), program.tells(["a"])
        self.assertTrue(stand_alone(one, other))
        one[1].clear()
        self.assertEqual(program.tells(["a"]), error("told x", "from a"))
        self.assertEqual(other, error("told x", "from a"))
        done = program.run(["a"])
        done.append("q")
        self.assertEqual(program.run(["a"]), ["a"])

    def test_kinds_of_values(self):
        told = Program([guard([STEP_A], [(None, [("from", "x")])])]).tells(["a"])
        self.assertEqual((type(told), type(told[1]), type(told[1][0])), (tuple, list, tuple))
        self.assertEqual(type(Program([STEP_A]).run([])), list)


class BuiltProgramsTest(unittest.TestCase):
    def check(self, row, some):
        program = Program(row)
        before = copy.deepcopy(row)
        for lot in some:
            self.assertEqual((program.tells(lot), program.run(lot)), observe(row, lot), (row, lot))
        self.assertEqual(program.row, before)

    def test_as_python_itself_raises_and_handles(self):
        for row in built_rows(900) + built_rows(300, first=10 ** 6, letters="abcdefgh", most=14, depth=4):
            self.check(row, lots(steps_of(row)))

    def test_a_great_program(self):
        row = great_row()
        steps = steps_of(row)
        self.check(row, [[], steps] + [[name] for name in steps] + [steps[at::2] for at in (0, 1)]
                   + [steps[at:at + 5] for at in range(len(steps))]
                   + [[one, other] for one in steps for other in steps if one < other])


if __name__ == "__main__":
    unittest.main()
