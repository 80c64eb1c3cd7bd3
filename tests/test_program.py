"""[2], [4]: what a program is, which rows are none, and what can be asked of it without a run."""

import copy
import unittest

from tests.oracle import built_rows, great_row, guard, names_of, placed, stand_alone, steps_of, without
from toldatlast.errors import InvalidName, InvalidStatement, NothingHandled, UnknownPlace
from toldatlast.programs import Program

DEEP = [
    ("step", "a"),
    ("guard",
     [("guard", [("step", "b"), ("leave",)], [(["b", "x"], [("again",), ("from", "y")])], [("step", "c")])],
     [([], [("guard", [("again",)], [(None, [])], [("from", "z")])]), (None, [("hide", "x")])],
     [("raise", "last"), ("step", "a")]),
]

NO_STATEMENTS = [
    (), ("stop",), ("",), ("Step", "a"), ("step ", "a"), ("try", [], [], []), ("a", "step"),
    ("step",), ("step", "a", "b"), ("raise",), ("raise", "a", "b"), ("from",), ("from", "a", "b"),
    ("hide",), ("hide", "a", "b"), ("again", "a"), ("leave", "a"),
    ("guard",), ("guard", []), ("guard", [], []), ("guard", [], [], [], []),
]

NO_NAMES = ["", "abcdefghi", "A", "aB", "a1", "1", "a b", " a", "a ", "a_b", "~", "-", "{", "a`", "*", ",", "abcdefgh "]


class RaisesTest(unittest.TestCase):
    def check(self, kind, value, row):
        with self.assertRaises(kind) as caught:
            Program(row)
        self.assertIs(type(caught.exception), kind)
        self.assertEqual(caught.exception.value, value)
        return caught.exception


class StatementsTest(RaisesTest):
    def test_each_kind_of_statement_that_is_none(self):
        for none in NO_STATEMENTS:
            self.check(InvalidStatement, [0], [none])
            self.check(InvalidStatement, [2], [("step", "a"), ("leave",), none, ()])

    def test_in_each_part_of_guards(self):
        for none in NO_STATEMENTS:
            self.check(InvalidStatement, [1, 0, 0], [("leave",), guard([none])])
            self.check(InvalidStatement, [0, 1, 1], [guard([], [], [("leave",), none])])
            self.check(InvalidStatement, [0, 2, 0], [guard([], [(None, [none])])])
            self.check(InvalidStatement, [0, 3, 0, 2, 1],
                       [guard([], [(None, []), (["a"], [guard([], [([], [("again",), none])])])])])

    def test_each_kind_of_statement_that_is_one(self):
        for word in ["step", "raise", "hide"]:
            self.assertEqual(Program([(word, "abcdefgh")]).row, [(word, "abcdefgh")])
        for row in [[], [("leave",)], [guard()], [guard([], [(None, [("again",), ("from", "z")])])]]:
            self.assertEqual(Program(row).row, row)
        self.assertEqual(Program(DEEP).row, DEEP)

    def test_names_that_are_none(self):
        for none in NO_NAMES:
            for word in ["step", "raise", "hide"]:
                self.check(InvalidName, none, [("step", "a"), (word, none), (word, "B")])
            self.check(InvalidName, none, [guard([], [(None, [("from", none)])])])
            self.check(InvalidName, none, [guard([], [(["a"], []), (["b", none, ""], [])])])

    def test_each_letter_is_one_and_its_neighbours_are_not(self):
        for letter in "abcdefghijklmnopqrstuvwxyz":
            self.assertEqual(Program([("step", letter)]).steps, [letter])
            self.check(InvalidName, letter.upper(), [("step", letter.upper())])
        for sign in [chr(at) for at in range(32, 127) if not "a" <= chr(at) <= "z"]:
            self.check(InvalidName, "a" + sign, [("raise", "a" + sign)])

    def test_names_of_one_to_eight_letters(self):
        for many in range(0, 12):
            if 1 <= many <= 8:
                self.assertEqual(Program([("hide", "z" * many)]).names, ["z" * many])
            else:
                self.check(InvalidName, "z" * many, [("hide", "z" * many)])

    def test_nothing_handled(self):
        for statement in [("again",), ("from", "a")]:
            self.check(NothingHandled, [0], [statement])
            self.check(NothingHandled, [1, 0, 0], [("leave",), guard([statement])])
            self.check(NothingHandled, [0, 1, 0], [guard([], [(None, [statement])], [statement])])
            self.check(NothingHandled, [0, 1, 0, 0, 1], [guard([], [], [guard([("leave",), statement])])])
            self.check(NothingHandled, [0, 0, 0, 1, 0], [guard([guard([], [([], [statement])], [statement])])])
            for inner in [[statement], [guard([statement])], [guard([], [], [guard([], [], [statement])])]]:
                self.assertEqual(len(Program([guard([], [(None, inner)])])), len(inner_statements(inner)) + 1)

    def test_which_of_several_errors_of_one_statement(self):
        self.check(InvalidName, "A", [("from", "A")])
        self.check(InvalidStatement, [0], [("from", "A", "B")])
        self.check(InvalidStatement, [0], [("again", "A")])
        self.check(InvalidStatement, [0], [("guard", [("step", "A")], [])])

    def test_which_of_several_errors_of_a_row(self):
        wrong = [(InvalidName, "A", ("step", "A")), (InvalidStatement, [0], ()), (NothingHandled, [0], ("again",))]
        for kind, value, statement in wrong:
            for _, _, behind in wrong:
                self.check(kind, value, [statement, behind])
                place = [1] if value == [0] else value
                self.check(kind, place, [("leave",), statement, behind, ()])

    def test_which_of_several_errors_of_a_guard(self):
        parts = [
            (InvalidName, "B", lambda g: g[1].append(("raise", "B"))),
            (InvalidName, "N", lambda g: g[2].append((["a", "N", "O"], []))),
            (InvalidName, "H", lambda g: g[2].append((None, [("hide", "H")]))),
            (InvalidStatement, None, lambda g: g[2].append((["P"], [()]))),
            (NothingHandled, [0, 1, 0], lambda g: g[3].append(("again",))),
        ]
        for first in range(len(parts)):
            row = [guard(), ()]
            for _, _, put in parts[first:]:
                put(row[0])
            kind, value, _ = parts[first]
            if first == 3:
                kind, value = InvalidName, "P"
            self.check(kind, value, row)

    def test_a_handlers_names_stand_between_the_rows(self):
        self.check(InvalidStatement, [0, 0, 0], [guard([()], [(["A"], [])])])
        self.check(InvalidStatement, [0, 2, 0], [guard([], [(["a"], [()]), (["A"], [])])])
        self.check(InvalidName, "A", [guard([], [(["A"], [()])], [()])])
        self.check(InvalidStatement, [0, 3, 0], [guard([], [(None, []), (["a"], [()])], [("step", "")])])
        self.check(InvalidName, "", [guard([], [(None, []), (["a"], [])], [("step", "")]), ()])

    def test_the_errors_list_is_new(self):
        row = [guard([], [(None, [()])])]
        one, other = self.check(InvalidStatement, [0, 2, 0], row), self.check(InvalidStatement, [0, 2, 0], row)
        self.assertIsNot(one.value, other.value)
        one.value.append(9)
        self.check(InvalidStatement, [0, 2, 0], row)
        self.assertEqual(other.value, [0, 2, 0])

    def test_the_row_handed_in_is_not_changed(self):
        for row in [DEEP, DEEP + [()], [("step", "A")], [("again",)]]:
            before = copy.deepcopy(row)
            try:
                Program(row=row)
            except ValueError:
                pass
            self.assertEqual(row, before)


def inner_statements(row):
    return [statement for _, statement in placed(row)]


class PropertiesTest(unittest.TestCase):
    def test_row_is_told_anew_each_time(self):
        program = Program(DEEP)
        self.assertEqual(program.row, DEEP)
        self.assertTrue(stand_alone(program.row, DEEP))
        one, other = program.row, program.row
        self.assertTrue(stand_alone(one, other))
        one[1][1].append(("leave",))
        one[1][2][1][1].clear()
        one[1][1][0][2][0][0].append("q")
        del one[0]
        self.assertEqual(program.row, DEEP)
        self.assertEqual(other, DEEP)

    def test_lists_that_stand_in_several_places_are_told_apart(self):
        names, inner = ["a"], [("step", "a")]
        program = Program([("guard", inner, [(names, inner), (names, inner)], inner)])
        told = program.row
        self.assertTrue(stand_alone(told))
        told[0][1].clear()
        told[0][2][0][0].clear()
        self.assertEqual(told, [("guard", [], [([], inner), (["a"], inner)], inner)])

    def test_later_changes_of_the_row_handed_in(self):
        row = copy.deepcopy(DEEP)
        program = Program(row)
        row[1][1][0][2][0][0].append("q")
        row[1][2][1][1].append(("step", "q"))
        row.append(("step", "r"))
        self.assertEqual(program.row, DEEP)
        self.assertEqual((program.steps, len(program)), (["a", "b", "c"], 14))
        self.assertEqual(program.names, names_of(DEEP))

    def test_steps_and_names(self):
        program = Program(DEEP)
        self.assertEqual(program.steps, ["a", "b", "c"])
        self.assertEqual(program.names, ["a", "b", "c", "last", "x", "y", "z"])
        self.assertEqual((Program([]).steps, Program([]).names), ([], []))
        self.assertEqual(Program([("raise", "b"), ("hide", "a")]).steps, [])
        self.assertEqual(Program([("step", "b"), ("step", "ab"), ("step", "b")]).steps, ["ab", "b"])
        self.assertEqual(Program([guard([], [(["c", "c", "b"], [])])]).names, ["b", "c"])
        for row in built_rows(200):
            self.assertEqual((Program(row).steps, Program(row).names), (steps_of(row), names_of(row)))

    def test_steps_and_names_are_new_lists(self):
        program = Program(DEEP)
        program.steps.append("q")
        program.names.clear()
        self.assertEqual(program.steps, ["a", "b", "c"])
        self.assertEqual(program.names, names_of(DEEP))
        self.assertEqual(program.row, DEEP)

    def test_properties_are_not_assigned(self):
        for name in ["row", "steps", "names"]:
            with self.assertRaises(AttributeError):
                setattr(Program(DEEP), name, [])

    def test_len(self):
        self.assertEqual(len(Program([])), 0)
        self.assertEqual(len(Program([("step", "a"), ("step", "a")])), 2)
        self.assertEqual(len(Program([guard([], [(["a", "b"], []), (None, [])])])), 1)
        self.assertEqual(len(Program(DEEP)), 14)
        for row in built_rows(200):
            self.assertEqual(len(Program(row)), len(list(placed(row))))

    def test_equal_if_the_rows_are(self):
        for row in built_rows(60):
            program = Program(row)
            self.assertTrue(program == Program(copy.deepcopy(row)))
            self.assertFalse(program != Program(copy.deepcopy(row)))
            for place, _ in placed(row):
                self.assertFalse(program == Program(without(row, place)))
                self.assertTrue(program != Program(without(row, place)))

    def test_unequal_by_small_things(self):
        rows = [[], [("step", "a")], [("raise", "a")], [("step", "b")], [("step", "a"), ("step", "a")], [guard()],
                [guard([], [(None, [])])], [guard([], [([], [])])], [guard([], [(["a"], [])])],
                [guard([], [(["a", "b"], [])])], [guard([], [(["b", "a"], [])])], [guard([("leave",)])],
                [guard([], [], [("leave",)])]]
        for at, one in enumerate(rows):
            for beside, other in enumerate(rows):
                self.assertEqual(Program(one) == Program(other), at == beside)
                self.assertEqual(Program(one) != Program(other), at != beside)

    def test_not_equal_to_anything_else(self):
        for program in [Program([]), Program(DEEP)]:
            for other in [None, 0, "", [], (), program.row, tuple(program.row), program.steps, {}]:
                self.assertFalse(program == other)
                self.assertFalse(other == program)
                self.assertTrue(program != other)


class PlacesTest(unittest.TestCase):
    def unknown(self, program, place):
        for asked in [program.at, program.without]:
            before = list(place)
            with self.assertRaises(UnknownPlace) as caught:
                asked(place=place)
            self.assertIs(type(caught.exception), UnknownPlace)
            self.assertEqual(caught.exception.value, before)
            self.assertIsNot(caught.exception.value, place)
            self.assertEqual(place, before)

    def test_at_and_without_for_each_place(self):
        for row in [DEEP] + built_rows(120):
            program = Program(row)
            for place, statement in placed(row):
                self.assertEqual(program.at(place), statement)
                self.assertEqual(program.without(place).row, without(row, place))
            self.assertEqual(program, Program(row))

    def test_places_by_hand(self):
        program = Program(DEEP)
        self.assertEqual(program.at([0]), ("step", "a"))
        self.assertEqual(program.at(place=[1, 0, 0, 2, 1]), ("from", "y"))
        self.assertEqual(program.at([1, 2, 0, 1, 0]), ("from", "z"))
        self.assertEqual(program.at([1, 3, 0]), ("hide", "x"))
        self.assertEqual(program.at([1, 1, 0]), ("raise", "last"))
        self.assertEqual(program.without(place=[1]).row, [("step", "a")])
        self.assertEqual(program.without([1, 0, 0]).row[1][1], [])
        self.assertEqual(program.without([1, 3, 0]).row[1][2][1], (None, []))

    def test_lists_that_are_no_places(self):
        program = Program(DEEP)
        for place in [[], [2], [-1], [-2], [99], [0, 0], [1, 0], [1, 1], [1, 2], [0, 0, 0], [0, 1, 0], [0, 2, 0],
                      [1, -1, 0], [1, 4, 0], [1, 99, 0], [1, 0, 1], [1, 0, -1], [1, 1, 2], [1, 2, 1], [1, 3, 1],
                      [-1, 0, 0], [1, -2, 0], [2, 0, 0], [1, 0, 0, 2], [1, 0, 0, 3, 0], [1, 0, 0, 2, 2],
                      [1, 0, 0, 0, 0, 0, 0], [1, 2, 0, 2, 0], [1, 0, 0, -1, 0], [1, 0, 0, 0, -1],
                      [0] * 16, [0] * 15, [1] * 16, [1, 0, 0] + [0] * 13, [10 ** 20], [1, 10 ** 20, 0], [-10 ** 20]]:
            self.unknown(program, place)
            self.unknown(Program([]), place)

    def test_all_short_lists(self):
        for row in [DEEP] + built_rows(15):
            program = Program(row)
            places = [place for place, _ in placed(row)]
            for one in range(-1, 4):
                for two in range(-1, 6):
                    for three in range(-1, 4):
                        if [one, two, three] not in places:
                            self.unknown(program, [one, two, three])
                    self.unknown(program, [one, two])
                if [one] not in places:
                    self.unknown(program, [one])

    def test_a_place_in_a_statement_without_parts(self):
        for statement in [("step", "a"), ("raise", "a"), ("hide", "a"), ("leave",)]:
            for part in range(3):
                self.unknown(Program([statement]), [0, part, 0])

    def test_what_at_returns_is_new(self):
        program = Program(DEEP)
        told = program.at([1])
        self.assertTrue(stand_alone(told, program.at([1]), program.row, DEEP))
        told[1].clear()
        told[2][0][0].append("q")
        told[3].append(("leave",))
        self.assertEqual(program.row, DEEP)
        self.assertEqual(program.at([1]), DEEP[1])

    def test_without_leaves_the_program_as_it_was(self):
        program = Program(DEEP)
        other = program.without([1, 2, 0, 0, 0])
        self.assertEqual(program.row, DEEP)
        self.assertEqual(len(other), 13)
        self.assertEqual(other.without([1]).steps, ["a"])
        self.assertEqual(len(other), 13)

    def test_a_great_program(self):
        row = great_row()
        program = Program(row)
        self.assertEqual((len(program), len(program.names)), (60, 30))
        self.assertEqual(program.names, names_of(row))
        self.assertEqual(program, Program(copy.deepcopy(row)))
        for place, statement in placed(row):
            self.assertEqual(program.at(place), statement)
            self.assertEqual(len(program.without(place)), 60 - len(list(placed([statement]))))
        self.assertEqual(max(len(place) for place, _ in placed(row)), 13)


if __name__ == "__main__":
    unittest.main()
