"""The examples of the document's interface, each as it stands there."""

import doctest
import unittest

PROGRAMS = '''
>>> from toldatlast.programs import Program
>>> program = Program([("guard", [("step", "load")], [(["load"], [("from", "broken")])], [("step", "close")]), ("step", "show")])
>>> [program.tells([]), program.tells(["load"]), program.tells(["load", "close"]), program.tells(["show", "close"]), program.run(["load"])]
[('ended',), ('error', [('told', 'broken'), ('from', 'load')]), ('error', [('told', 'close'), ('during', 'broken'), ('from', 'load')]), ('error', [('told', 'close')]), ['load', 'close']]
>>> [program.steps, program.names, program.at([0, 2, 0]), program.without([0, 1, 0]).tells(["load"]), len(program)]
[['close', 'load', 'show'], ['broken', 'close', 'load', 'show'], ('from', 'broken'), ('error', [('told', 'broken'), ('from', 'load')]), 5]
'''

TREES = '''
>>> from toldatlast.programs import Program
>>> from toldatlast.trees import judge, leaves, ordered_tree, tree, walk
>>> program = Program([("guard", [("step", "a")], [(None, [])], [("step", "b")])])
>>> [tree(program) == ("ask", "a", ("ask", "b", ("end", ("error", [("told", "b"), ("during", "a")])), ("end", ("ended",))), ("ask", "b", ("end", ("error", [("told", "b")])), ("end", ("ended",)))), leaves(tree(program)), ordered_tree(program) == ("ask", "b", ("end", ("error", [("told", "b")])), ("end", ("ended",)))]
[False, 4, True]
>>> [walk(tree(program), ["a", "b"]), judge(program, tree(program)), judge(program, ("ask", "b", ("end", ("error", [("told", "b")])), ("end", ("ended",)))), judge(program, ("end", ("ended",)))]
[('error', [('told', 'b')]), True, True, False]
'''

COMPARE = '''
>>> from toldatlast.compare import alike, exchangeable, first_unlike, may_change_places, minded, needless
>>> from toldatlast.programs import Program
>>> guarded = Program([("guard", [("step", "a"), ("step", "b")], [(["b"], [("again",)])], [])])
>>> plain = Program([("step", "a"), ("step", "b")])
>>> [alike(guarded, plain), first_unlike(plain, Program([("step", "b"), ("step", "a")])), needless(guarded), may_change_places(plain, [0]), minded(plain)]
[True, ['a', 'b'], [], False, ['a', 'b']]
>>> calm = Program([("guard", [("step", "a")], [(None, [])], []), ("step", "b")])
>>> [minded(calm), needless(calm), first_unlike(calm, plain), alike(calm, Program([("step", "b")]))]
[['b'], [[0], [0, 0, 0]], ['a'], True]
>>> [alike(Program([("raise", "x")]), Program([("hide", "x")])), exchangeable([("raise", "x")], [("hide", "x")]), exchangeable([("guard", [("again",)], [], [])], [("again",)]), exchangeable([("step", "a"), ("leave",)], [("step", "a"), ("leave",), ("raise", "b")])]
[True, False, True, True]
'''

HIDDEN = '''
>>> from toldatlast.hidden import chains, first_hidden, hidden_steps, mends, with_changes
>>> from toldatlast.programs import Program
>>> hides = Program([("guard", [("step", "a")], [(None, [("hide", "x")])], [])])
>>> leaves = Program([("guard", [("step", "a")], [], [("step", "b"), ("leave",)])])
>>> calm = Program([("guard", [("step", "a")], [(None, [])], []), ("step", "b")])
>>> [first_hidden(hides, "a"), chains(hides), hidden_steps(leaves), first_hidden(leaves, "a"), hidden_steps(calm), mends(hides), mends(leaves), mends(calm)]
[['a'], [[('told', 'x')]], ['a'], ['a'], [], [[[0, 2, 0]]], [[[0, 1, 1]]], [[]]]
>>> [with_changes(hides, [[0, 2, 0]]).tells(["a"]), with_changes(leaves, [[0, 1, 1]]).row]
[('error', [('told', 'x'), ('during', 'a')]), [('guard', [('step', 'a')], [], [('step', 'b')])]]
'''

RUNNERS = '''
>>> from toldatlast.programs import Program
>>> from toldatlast.runners import CarefulRunner, Runner
>>> program = Program([("guard", [("step", "load")], [(["load"], [("from", "broken")])], [("step", "close")]), ("step", "show")])
>>> runner = Runner(program)
>>> [runner.asks, runner(True), runner.asks, runner.handled(), runner(False), runner.told, runner.lot, runner.done, runner.undo(), runner.asks, len(runner)]
['load', None, 'close', [('told', 'broken'), ('from', 'load')], None, ('error', [('told', 'broken'), ('from', 'load')]), ['load'], ['load', 'close'], None, 'close', 1]
'''

TEXTS = '''
>>> from toldatlast.programs import Program
>>> from toldatlast.readings import read_program, read_told
>>> from toldatlast.texts import show_program, show_told
>>> program = Program([("guard", [("step", "a"), ("raise", "b")], [(["a", "c"], [("again",)]), (None, [])], [("leave",)]), ("step", "d")])
>>> [show_program(program), read_program(show_program(program)) == program, show_told(("error", [("told", "x"), ("during", "a")])), read_told("told x from a during b"), read_program("") == Program([])]
['guard {step a; raise b} on a,c {again} on * {} last {leave}; step d', True, 'told x during a', ('error', [('told', 'x'), ('from', 'a'), ('during', 'b')]), True]
'''


class ExamplesTest(unittest.TestCase):
    def check(self, text):
        example = doctest.DocTestParser().get_doctest(text, {}, self.id(), None, 0)
        report = []
        result = doctest.DocTestRunner().run(example, out=report.append)
        self.assertGreater(result.attempted, 0)
        self.assertEqual(result.failed, 0, "".join(report))

    def test_programs(self):
        self.check(PROGRAMS)

    def test_trees(self):
        self.check(TREES)

    def test_compare(self):
        self.check(COMPARE)

    def test_hidden(self):
        self.check(HIDDEN)

    def test_runners(self):
        self.check(RUNNERS)

    def test_texts_and_readings(self):
        self.check(TEXTS)


if __name__ == "__main__":
    unittest.main()
