"""[8], as far as trees go."""

import copy
import unittest

from tests.oracle import GREAT, built_rows, guard, lots, names_of, observe, stand_alone, steps_of, told
from toldatlast.programs import Program
from toldatlast.trees import judge, leaves, ordered_tree, tree, walk

ENDED, LEFT = ("end", ("ended",)), ("end", ("left",))
EIGHT = [("step", name) for name in "hgfedcba"]


def raised(name, *behind):
    """The end at which an error is told, with links as "during a" behind it."""
    return ("end", ("error", [("told", name)] + [tuple(link.split()) for link in behind]))


def ways(told_tree, way=()):
    """All (way, end) of a tree; a way has (step, fails)."""
    if told_tree[0] == "end":
        yield list(way), told_tree[1]
    else:
        _, step, fails, holds = told_tree
        yield from ways(fails, (*way, (step, True)))
        yield from ways(holds, (*way, (step, False)))


def questions(told_tree):
    """All questions of a tree."""
    if told_tree[0] == "ask":
        yield told_tree
        yield from questions(told_tree[2])
        yield from questions(told_tree[3])


def swapped_tree(row, steps, lot=()):
    """A tree that asks all steps in the order given, on each way."""
    if not steps:
        return ("end", told(row, list(lot)))
    return ("ask", steps[0], swapped_tree(row, steps[1:], (*lot, steps[0])), swapped_tree(row, steps[1:], lot))


class ByHandTest(unittest.TestCase):
    def test_without_questions(self):
        for row, end in [([], ENDED), ([("leave",), ("step", "a")], LEFT),
                         ([("raise", "x"), ("step", "a")], raised("x")),
                         ([guard([("raise", "x")], [(None, [])], [("hide", "y")])], raised("y"))]:
            program = Program(row)
            self.assertEqual((tree(program), ordered_tree(program), leaves(tree(program))), (end, end, 1))
            self.assertTrue(judge(program, end))

    def test_in_the_order_of_the_run(self):
        program = Program([("step", "b"), ("step", "a"), ("step", "b")])
        expected = ("ask", "b", raised("b"), ("ask", "a", raised("a"), ENDED))
        self.assertEqual(tree(program=program), expected)
        self.assertEqual(ordered_tree(program=program),
                         ("ask", "a", ("ask", "b", raised("b"), raised("a")), ("ask", "b", raised("b"), ENDED)))

    def test_other_orders_on_other_ways(self):
        program = Program([guard([("step", "b"), ("step", "c")], [(["b"], [("step", "a"), ("step", "c")])])])
        expected = ("ask", "b", ("ask", "a", raised("a", "during b"), ("ask", "c", raised("c", "during b"), ENDED)),
                    ("ask", "c", raised("c"), ENDED))
        self.assertEqual(tree(program), expected)
        self.assertEqual(leaves(told=expected), 5)

    def test_equal_trees_are_asked_in_one_and_not_in_the_other(self):
        program = Program([guard([("step", "a")], [(None, [("leave",)])], []), ("leave",)])
        self.assertEqual(tree(program), ("ask", "a", LEFT, LEFT))
        self.assertEqual(ordered_tree(program), LEFT)
        program = Program([("step", "b"), guard([("step", "a")], [(None, [])])])
        self.assertEqual(tree(program), ("ask", "b", raised("b"), ("ask", "a", ENDED, ENDED)))
        self.assertEqual(ordered_tree(program), ("ask", "b", raised("b"), ENDED))

    def test_a_step_that_is_asked_once_only(self):
        program = Program([guard([("step", "a")], [(None, [("step", "a")])]), ("step", "a")])
        self.assertEqual(tree(program), ("ask", "a", raised("a", "during a"), ENDED))

    def test_steps_are_ordered_as_texts(self):
        program = Program([("step", "b"), ("step", "ab"), ("step", "a")])
        self.assertEqual([way[0][0] for way, _ in ways(ordered_tree(program))], ["a"] * 8)
        self.assertEqual(sorted({question[1] for question in questions(ordered_tree(program)[2])}), ["ab", "b"])
        self.assertEqual(ordered_tree(program)[2][1], "ab")


class WalkTest(unittest.TestCase):
    def test_by_each_lot(self):
        told_tree = ("ask", "a", ("ask", "b", raised("b", "during a"), LEFT), ENDED)
        for lot, end in [([], ("ended",)), (["b"], ("ended",)), (["a"], ("left",)),
                         (["b", "a"], ("error", [("told", "b"), ("during", "a")]))]:
            self.assertEqual(walk(told_tree, lot), end)
            self.assertEqual(walk(told=told_tree, lot=lot), end)

    def test_lots_of_any_names(self):
        self.assertEqual(walk(ENDED, ["a", "x"]), ("ended",))
        self.assertEqual(walk(("ask", "a", LEFT, ENDED), ["x", "y"]), ("ended",))
        self.assertEqual(walk(("ask", "a", LEFT, ENDED), ["x", "a", "y"]), ("left",))

    def test_what_is_returned_is_new(self):
        told_tree = ("ask", "a", raised("a"), ENDED)
        end = walk(told_tree, ["a"])
        self.assertTrue(stand_alone(end, told_tree))
        end[1].clear()
        self.assertEqual(told_tree, ("ask", "a", raised("a"), ENDED))


class JudgeTest(unittest.TestCase):
    def setUp(self):
        self.program = Program([("step", "a"), ("step", "b"), ("leave",), ("step", "c")])
        self.right = ("ask", "a", raised("a"), ("ask", "b", raised("b"), LEFT))

    def test_right_in_any_order(self):
        for right in [self.right, ("ask", "b", ("ask", "a", raised("a"), raised("b")), ("ask", "a", raised("a"), LEFT)),
                      ("ask", "a", ("ask", "b", raised("a"), raised("a")), ("ask", "b", raised("b"), LEFT)),
                      ("ask", "c", self.right, self.right), ("ask", "a", ("ask", "c", raised("a"), raised("a")), (
                          "ask", "b", raised("b"), ("ask", "c", LEFT, LEFT)))]:
            self.assertIs(judge(self.program, right), True)
            self.assertIs(judge(program=self.program, told=right), True)

    def test_a_wrong_end(self):
        for wrong in [LEFT, raised("a"), ("ask", "a", raised("a"), ("ask", "b", raised("b"), ENDED)),
                      ("ask", "a", raised("a"), ("ask", "b", LEFT, raised("b"))),
                      ("ask", "a", raised("a", "during b"), ("ask", "b", raised("b"), LEFT)),
                      ("ask", "a", ("end", ("error", [("during", "a")])), ("ask", "b", raised("b"), LEFT)),
                      ("ask", "a", ("end", ("error", [])), ("ask", "b", raised("b"), LEFT)),
                      ("ask", "b", raised("b"), ("ask", "a", raised("a"), LEFT)),
                      ("ask", "a", raised("a"), LEFT), ("ask", "c", self.right, LEFT), ("ask", "c", LEFT, self.right)]:
            self.assertIs(judge(self.program, wrong), False)

    def test_a_step_that_is_asked_twice_on_a_way(self):
        for wrong in [("ask", "a", ("ask", "a", raised("a"), raised("a")), ("ask", "b", raised("b"), LEFT)),
                      ("ask", "a", raised("a"), ("ask", "b", raised("b"), ("ask", "a", LEFT, LEFT))),
                      ("ask", "a", raised("a"), ("ask", "a", ENDED, ("ask", "b", raised("b"), LEFT))),
                      ("ask", "c", ("ask", "c", self.right, self.right), self.right),
                      ("ask", "c", self.right, ("ask", "c", self.right, self.right))]:
            self.assertIs(judge(self.program, wrong), False)

    def test_a_step_that_is_none_of_the_program(self):
        for name in ["d", "x", "", "A"]:
            for wrong in [("ask", name, self.right, self.right),
                          ("ask", "a", raised("a"), ("ask", "b", raised("b"), ("ask", name, LEFT, LEFT))),
                          ("ask", "a", ("ask", name, raised("a"), raised("a")), ("ask", "b", raised("b"), LEFT))]:
                self.assertIs(judge(self.program, wrong), False)
        program = Program([guard([("raise", "x")], [(["y"], [])])])
        self.assertIs(judge(program, raised("x")), True)
        for name in ["x", "y"]:
            self.assertIs(judge(program, ("ask", name, raised("x"), raised("x"))), False)

    def test_the_tree_handed_in_is_not_changed(self):
        before = copy.deepcopy(self.right)
        judge(self.program, self.right)
        walk(self.right, ["a"])
        leaves(self.right)
        self.assertEqual(self.right, before)


class BuiltProgramsTest(unittest.TestCase):
    def rows(self):
        return built_rows(250) + built_rows(60, first=10 ** 6, letters="abcdefgh", most=14, depth=4) + [EIGHT, GREAT]

    def test_tree_asks_what_is_run_first_and_was_not_asked(self):
        for row in self.rows():
            told_tree = tree(Program(row))
            for way, end in ways(told_tree):
                lot = [step for step, fails in way if fails]
                expected, done = observe(row, lot)
                self.assertEqual(end, expected)
                self.assertEqual([step for step, _ in way], list(dict.fromkeys(done)))

    def test_ordered_tree_is_the_only_one(self):
        for row in self.rows():
            told_tree = ordered_tree(Program(row))
            for way, _ in ways(told_tree):
                steps = [step for step, _ in way]
                self.assertEqual(steps, sorted(set(steps)))
            for _, _, fails, holds in questions(told_tree):
                self.assertNotEqual(fails, holds)

    def test_each_lot_comes_to_what_is_told(self):
        for row in self.rows():
            program = Program(row)
            asked, ordered = tree(program), ordered_tree(program)
            for lot in lots(steps_of(row)):
                expected = told(row, lot)
                self.assertEqual(walk(asked, lot), expected)
                self.assertEqual(walk(ordered, lot), expected)
                self.assertEqual(walk(ordered, lot + ["zz"]), expected)

    def test_judge_agrees_with_all_lots(self):
        rows = [row for row in self.rows() if len(steps_of(row)) <= 4]
        for at, row in enumerate(rows):
            program = Program(row)
            steps = steps_of(row)
            self.assertTrue(judge(program, tree(program)))
            self.assertTrue(judge(program, ordered_tree(program)))
            self.assertTrue(judge(program, swapped_tree(row, steps[::-1])))
            other = rows[at - 1]
            told_tree = tree(Program(other))
            right = (all(step in steps for way, _ in ways(told_tree) for step, _ in way)
                     and all(walk(told_tree, lot) == told(row, lot) for lot in lots(steps)))
            self.assertIs(judge(program, told_tree), right)

    def test_judge_finds_each_wrong_end(self):
        for row in self.rows()[:80]:
            steps = steps_of(row)
            if 0 < len(steps) <= 3:
                for many in range(2 ** len(steps)):
                    wrong = with_end(swapped_tree(row, steps), many, ("error", [("told", "zz")]))
                    self.assertFalse(judge(Program(row), wrong))

    def test_leaves(self):
        for row in self.rows():
            for told_tree in [tree(Program(row)), ordered_tree(Program(row))]:
                self.assertEqual(leaves(told_tree), len(list(ways(told_tree))))

    def test_all_lists_are_new(self):
        for row in self.rows():
            program = Program(row)
            self.assertTrue(stand_alone(tree(program), ordered_tree(program), tree(program), ordered_tree(program)))
            self.assertEqual(program.row, row)


def with_end(told_tree, at, end):
    """A tree with another end at a place, counted from the left."""
    if told_tree[0] == "end":
        return ("end", end)
    _, step, fails, holds = told_tree
    many = len(list(ways(fails)))
    if at < many:
        return ("ask", step, with_end(fails, at, end), holds)
    return ("ask", step, fails, with_end(holds, at - many, end))


class GreatTest(unittest.TestCase):
    def test_the_greatest_programs(self):
        program = Program(GREAT)
        self.assertEqual((len(program), len(program.names)), (14, 8))
        self.assertEqual(steps_of(GREAT), names_of(GREAT))
        self.assertTrue(judge(program, swapped_tree(GREAT, list("hgfedcba"))))
        self.assertFalse(judge(program, with_end(swapped_tree(GREAT, list("hgfedcba")), 255, ("left",))))
        self.assertEqual(leaves(swapped_tree(GREAT, list("abcdefgh"))), 256)

    def test_a_tree_of_many_ends_for_all_lots(self):
        row = []
        for name in "abcdefgh":
            row = [guard([("step", name)], [], row)]
        program = Program(row)
        self.assertEqual((leaves(tree(program)), leaves(ordered_tree(program))), (256, 256))
        self.assertTrue(judge(program, ordered_tree(program)))

    def test_a_tree_of_three_hundred_ends(self):
        grown = swapped_tree(EIGHT, list("abcdefgh"))
        for at in range(44):
            grown = with_more(grown, 5 * at)
        self.assertEqual(leaves(grown), 300)
        self.assertEqual(max(len(way) for way, _ in ways(grown)), 9)
        self.assertFalse(judge(Program(EIGHT), grown))
        self.assertFalse(judge(Program(EIGHT + [("step", "i")]), grown))
        self.assertTrue(judge(Program(EIGHT + [guard([("step", "i")], [(None, [])])]), grown))
        self.assertEqual(walk(grown, list("abcdefgh")), ("error", [("told", "h")]))


def with_more(told_tree, at):
    """A tree with one question more at an end, counted from the left."""
    if told_tree[0] == "end":
        return ("ask", "i", told_tree, told_tree)
    _, step, fails, holds = told_tree
    many = len(list(ways(fails)))
    if at < many:
        return ("ask", step, with_more(fails, at), holds)
    return ("ask", step, fails, with_more(holds, at - many))


if __name__ == "__main__":
    unittest.main()
