"""The texts of programs and of what is told at last, and what is read from them."""

import itertools
import random
import re
import unittest

from tests.oracle import GREAT, built_rows, great_row, guard, lossy_rows, placed, stand_alone
from toldatlast.errors import TellError, Unreadable
from toldatlast.hidden import chains
from toldatlast.programs import Program
from toldatlast.readings import read_program, read_told
from toldatlast.texts import show_program, show_told

STEP_A, STEP_B = ("step", "a"), ("step", "b")
AGAIN, LEAVE, HIDE = ("again",), ("leave",), ("hide", "x")

# Each row with its text.
PAIRS = [
    ([], ""),
    ([STEP_A], "step a"),
    ([("raise", "b")], "raise b"),
    ([("hide", "abcdefgh")], "hide abcdefgh"),
    ([LEAVE], "leave"),
    ([STEP_A, LEAVE, STEP_A], "step a; leave; step a"),
    ([guard()], "guard {} last {}"),
    ([guard([STEP_A])], "guard {step a} last {}"),
    ([guard([], [], [STEP_A, HIDE])], "guard {} last {step a; hide x}"),
    ([guard([], [(None, [])])], "guard {} on * {} last {}"),
    ([guard([], [([], [])])], "guard {} on  {} last {}"),
    ([guard([], [(["a"], [])])], "guard {} on a {} last {}"),
    ([guard([], [(["b", "a", "b"], [AGAIN])])], "guard {} on b,a,b {again} last {}"),
    ([guard([], [(None, [("from", "a")]), ([], [AGAIN]), (["a"], [])])],
     "guard {} on * {from a} on  {again} on a {} last {}"),
    ([guard([guard([guard()])])], "guard {guard {guard {} last {}} last {}} last {}"),
    ([guard([], [], [guard([], [], [guard()])])], "guard {} last {guard {} last {guard {} last {}}}"),
    ([guard([], [(None, [guard([AGAIN], [], [("from", "a")])])]), guard()],
     "guard {} on * {guard {again} last {from a}} last {}; guard {} last {}"),
    ([guard([guard([STEP_A], [(["on"], [guard([], [(None, [LEAVE])])])], [STEP_B])], [], [LEAVE]), STEP_B],
     "guard {guard {step a} on on {guard {} on * {leave} last {}} last {step b}} last {leave}; step b"),
    ([("step", "step"), ("raise", "again"), ("hide", "leave"), ("step", "guard"), ("step", "last")],
     "step step; raise again; hide leave; step guard; step last"),
    ([guard([("step", "on")], [(["last", "on"], [("from", "from")])])],
     "guard {step on} on last,on {from from} last {}"),
]

# Texts that no program has.
NO_PROGRAMS = [
    " ", "  ", "a", "step", "step ", "step  a", " step a", "step a ", "step a;", "step a; ", "; step a", ";", "; ",
    "step a;step b", "step a ; step b", "step a;  step b", "step a; ; step b", "step a, step b", "step a step b",
    "Step a", "STEP a", "step A", "step 1", "step a1", "step a_b", "step abcdefghi", "step *", "step {}", "step a,b",
    "stepa", "steps a", "ste a", "run a", "raise", "raise ", "hide", "hide  x", "leave ", "leave a", "leaves", "left",
    "ended", "told a", "again", "from a", "again; leave", "leave; again", "{}", "{", "}", "{step a}", "step a}", "{step a",
    "guard", "guard ", "guard {}", "guard {} ", "guard {} last", "guard {} last ", "guard {} last {", "guard {} last }",
    "guard {} last {}}", "guard {} last {};", "guard {} last {} ", "guard {}  last {}", "guard {} last  {}",
    "guard  {} last {}", "guard{} last {}", "guard {}last {}", "guard {} last{}", "guard { } last {}",
    "guard {} last { }", "guard {step a } last {}", "guard { step a} last {}", "guard {step a;} last {}",
    "guard {} last {} last {}", "guard {} last {} on * {}", "last {}", "on * {}", "guard last {}", "guard {} {} last {}",
    "guard {} on last {}", "guard {} on {} last {}", "guard {} on   {} last {}", "guard {} on *{} last {}",
    "guard {} on a{} last {}", "guard {} on a  {} last {}", "guard {} on  a {} last {}", "guard {} on *,a {} last {}",
    "guard {} on a,* {} last {}", "guard {} on ** {} last {}", "guard {} on a, {} last {}", "guard {} on ,a {} last {}",
    "guard {} on , {} last {}", "guard {} on a,,b {} last {}", "guard {} on a, b {} last {}",
    "guard {} on a b {} last {}", "guard {} on A {} last {}", "guard {} on abcdefghi {} last {}", "guard {} on* {} last {}",
    "guard {} on * {}last {}", "guard {} on * {} on * last {}", "guard {} on * last {}", "guard {}; last {}",
    "guard {} on * {}", "guard {again} last {}", "guard {} last {again}", "guard {} on * {} last {again}",
    "guard {from a} on * {} last {}", "guard {} on * {} last {}; again", "guard {guard {} last {from a}} last {}",
    "guard {} on * {}; last {}", "guard [] last []", "guard {{}} last {}", "guard {} on * {{}} last {}",
    "guard {} guard {} last {}", "guard {guard {} last {}", "guard {guard {}} last {}", "guard {} on * {} last {}} last {}",
]

ODD_SIGNS = " ab;,*{}zA0-~\"'"


def raised_value(case, call, text):
    """The value of the `Unreadable` that a call must raise."""
    with case.assertRaises(TellError) as caught:
        call(text)
    case.assertIs(type(caught.exception), Unreadable)
    return caught.exception.value


def is_program(text):
    """Tell whether a program has a text, by taking its innermost brackets away one after the other."""
    name = "[a-z]{1,8}"
    plain = f"(?:(?:step|raise|hide) {name}|leave)"
    any_one = f"(?:(?:step|raise|hide|from) {name}|leave|again)"
    if "<" in text or ">" in text:
        return False

    def bracket(match):
        if re.fullmatch(f"(?:{plain}(?:; {plain})*)?", match[1]):
            return "<plain>"
        return "<any>" if re.fullmatch(f"{any_one}(?:; {any_one})*", match[1]) else "<none>"

    def whole(match):
        return "leave" if match[1] == match[2] == "<plain>" else "again"

    row = "(<plain>|<any>)"
    handler = f" on (?:\\*|{name}(?:,{name})*|) (?:<plain>|<any>)"
    before = None
    while text != before:
        before = text
        text = re.sub(r"\{([^{}<>]*)\}", bracket, text)
        text = re.sub(f"(?:(?<=; )|(?<=\\{{)|^)guard {row}(?:{handler})* last {row}(?=$|; |\\}})", whole, text)
    return re.fullmatch(f"(?:{plain}(?:; {plain})*)?", text) is not None


def neighbours(text, signs):
    """All texts that have one sign more, one less, or another one than a text."""
    for at in range(len(text) + 1):
        yield text[:at] + text[at + 1:]
        for sign in signs:
            yield text[:at] + sign + text[at:]
            yield text[:at] + sign + text[at + 1:]


class ProgramTest(unittest.TestCase):
    def check(self, row, text):
        program = Program(row)
        self.assertEqual(show_program(program), text)
        self.assertEqual(show_program(program=program), text)
        self.assertEqual(read_program(text), program)
        self.assertEqual(read_program(text=text).row, row)
        self.assertTrue(is_program(text))
        self.assertEqual(program.row, row)

    def refuses(self, text):
        self.assertEqual(raised_value(self, read_program, text), text)

    def judge(self, text):
        """Check that a text is read just if a program has it, and then as that program."""
        if is_program(text):
            self.assertEqual(show_program(read_program(text)), text)
            return True
        self.refuses(text)
        return False


class ByHandTest(ProgramTest):
    def test_programs_and_their_texts(self):
        for row, text in PAIRS:
            self.check(row, text)

    def test_texts_that_no_program_has(self):
        for text in NO_PROGRAMS:
            self.refuses(text)
            self.assertFalse(is_program(text), text)
            with self.assertRaises(Unreadable):
                read_program(text=text)

    def test_in_each_part_of_a_guard(self):
        for text in NO_PROGRAMS:
            if text not in ["again", "from a", "again; leave", "leave; again", "guard {again} last {}",
                            "guard {} last {again}", "guard {} on * {} last {again}", "guard {from a} on * {} last {}",
                            "guard {} on * {} last {}; again", "guard {guard {} last {from a}} last {}"]:
                self.refuses("guard {" + text + "} on * {} last {}")
                self.refuses("guard {} on * {" + text + "} last {}")
                self.refuses("guard {} on * {} last {" + text + "}")

    def test_from_and_again_within_a_handler(self):
        for text in ["again", "from a", "again; leave", "guard {again} last {}", "guard {} last {from a}",
                     "guard {guard {} last {from a}} last {}", "guard {} on * {} last {again}"]:
            self.refuses(text)
            self.refuses("guard {" + text + "} on * {} last {}")
            self.refuses("guard {} on * {} last {" + text + "}")
            program = read_program("guard {} on a {" + text + "} last {}")
            self.assertEqual(show_program(program), "guard {} on a {" + text + "} last {}")

    def test_names(self):
        for many in range(12):
            for word in ["step", "raise", "hide"]:
                text = word + " " + "z" * many
                if 1 <= many <= 8:
                    self.check([(word, "z" * many)], text)
                else:
                    self.refuses(text)
        for sign in [chr(at) for at in range(32, 127) if chr(at) != "%"]:
            self.assertEqual(self.judge("step a" + sign), "a" <= sign <= "z")
            self.assertEqual(self.judge("step " + sign), "a" <= sign <= "z")
            self.assertEqual(self.judge("guard {} on " + sign + " {} last {}"), "a" <= sign <= "z" or sign == "*")
            self.judge(sign)

    def test_the_lists_are_new(self):
        text = "guard {step a} on a,b {again} last {leave}"
        one, other = read_program(text), read_program(text)
        one.row[0][1].clear()
        self.assertTrue(one == other)
        self.assertTrue(stand_alone(one.row, other.row))


class ChangedTextsTest(ProgramTest):
    def test_one_sign_put_in_taken_out_or_exchanged(self):
        found = set()
        for _, text in PAIRS:
            for other in neighbours(text, ODD_SIGNS):
                found.add(self.judge(other))
        self.assertEqual(found, {True, False})

    def test_parts_exchanged(self):
        rng = random.Random(5)
        parts = ["step a", "raise b", "again", "from c", "leave", "guard ", "{", "}", " on ", " last ", "*", "a", "a,b",
                 " ", "; ", "{}", "{step a}", "{again}", "last", "on", "guard {} last {}"]
        read = 0
        for _, text in PAIRS:
            pieces = [piece for piece in re.split("([{};, *]+|[a-z]+)", text) if piece]
            for _ in range(150):
                changed = list(pieces)
                for _ in range(rng.choice([1, 1, 2])):
                    at, beside = rng.randrange(len(changed) + 1), rng.randrange(len(changed) + 1)
                    kind = rng.randrange(4)
                    if kind == 0:
                        changed.insert(at, rng.choice(parts))
                    elif kind == 1:
                        changed[at:at + 1] = [rng.choice(parts)]
                    elif kind == 2:
                        changed[at:at + 1] = []
                    elif max(at, beside) < len(changed):
                        changed[at], changed[beside] = changed[beside], changed[at]
                read += self.judge("".join(changed))
        self.assertGreater(read, 100)

    def test_built_texts(self):
        rng = random.Random(6)
        parts = ["step a", "again", "leave", "guard", "{", "}", " on ", " last ", "*", "a", ",", " ", "; ", "", "{}"]
        read = 0
        for _ in range(20000):
            text = "".join(rng.choice(parts) for _ in range(rng.randint(1, 6)))
            read += self.judge(text)
        for body, last in itertools.product(["", "step a", "again", " ", "leave; ", "guard {} last {}", "{}"], repeat=2):
            for names in ["*", "", "a", "a,b", " ", ",", "a,", None]:
                handler = "" if names is None else " on " + names + " {" + body + "}"
                read += self.judge("guard {" + body + "}" + handler + " last {" + last + "}")
        self.assertGreater(read, 100)


class BuiltProgramsTest(ProgramTest):
    def test_what_is_read_is_equal_to_what_was_shown(self):
        rows = built_rows(500) + lossy_rows(300) + [GREAT, great_row()]
        texts = set()
        for row in rows:
            text = show_program(Program(row))
            self.check(row, text)
            texts.add(text)
        self.assertEqual(len(texts), len({repr(row) for row in rows}))

    def test_built_programs_with_a_sign_changed(self):
        rng = random.Random(8)
        found = []
        for row in built_rows(250) + [great_row()]:
            text = show_program(Program(row))
            for other in rng.sample(list(neighbours(text, rng.sample(ODD_SIGNS, 2))), 12 if text else 1):
                found.append(self.judge(other))
        self.assertGreater(min(found.count(True), found.count(False)), 100)


class GreatTextsTest(ProgramTest):
    def test_texts_of_three_thousand_characters(self):
        for part in ["step a", "leave", "hide abcdefgh", "guard {} last {}", "guard {} on  {again} on a,b {} last {step c}"]:
            text = "; ".join([part] * (3002 // (len(part) + 2)))
            self.assertTrue(2900 < len(text) <= 3000)
            program = read_program(text)
            self.assertEqual(program.row, read_program(part).row * (3002 // (len(part) + 2)))
            self.assertEqual(show_program(program), text)
            for wrong in [text + ";", text[:-1] + "!", "{" + text[1:], text[:1500] + "}" + text[1501:]]:
                self.refuses(wrong)
        names = ",".join("abcdefgh"[:1 + at % 8] for at in range(500))
        program = read_program("guard {} on " + names + " {again} last {}")
        self.assertEqual(program.row, [guard([], [(names.split(","), [AGAIN])])])
        text = "guard {}" + " on * {}" * 370 + " last {}"
        self.assertEqual(read_program(text).row, [guard([], [(None, [])] * 370)])

    def test_texts_of_three_thousand_signs_that_no_program_has(self):
        for sign in " ;{},*a~":
            text = sign * 20 if sign == "{" else sign * 3000
            self.refuses(text)
        for part in ["; ", "step ", "guard ", "on ", "a,", "{}", "guard {} ", "step a ;"]:
            self.refuses(part * (3000 // len(part)))
        self.refuses("step " + "a" * 2995)
        self.refuses("guard {} on " + "a," * 1490 + " {} last")

    def test_brackets_twenty_deep(self):
        for before, behind in [("guard {", "} last {}"), ("guard {} last {", "}"), ("guard {} on * {", "} last {}"),
                               ("step a; guard {leave} on a,b {step b; ", "; raise x} last {leave}; step c"),
                               ("guard {guard {} last {}} on  {guard {} last {}; ", "; leave} last {guard {} last {}}")]:
            text = before * 20 + "leave" + behind * 20
            self.assertLessEqual(len(text), 3000)
            self.assertTrue(is_program(text))
            program = read_program(text)
            self.assertEqual(show_program(program), text)
            self.assertEqual(max(len(place) for place, _ in placed(program.row)), 41)
            self.refuses(before * 20 + "leave" + behind * 19)
            self.refuses(before * 19 + "leave" + behind * 20)
            self.refuses(before * 20 + "leave " + behind * 20)
            self.assertEqual(self.judge(before * 20 + "again" + behind * 20), "on" in before)


class ToldTest(unittest.TestCase):
    def check(self, told, text):
        self.assertEqual(show_told(told), text)
        self.assertEqual(show_told(told=told), text)
        self.assertEqual(read_told(text), told)
        self.assertEqual(read_told(text=text), told)
        self.assertEqual([type(part) for part in read_told(text)], [type(part) for part in told])

    def refuses(self, text):
        self.assertEqual(raised_value(self, read_told, text), text)

    def judge(self, text):
        name = "[a-z]{1,8}"
        if re.fullmatch(f"ended|left|told {name}(?: (?:during|from) {name})*", text):
            self.assertEqual(show_told(read_told(text)), text)
            return True
        self.refuses(text)
        return False

    def test_all_that_may_be_told(self):
        self.check(("ended",), "ended")
        self.check(("left",), "left")
        self.check(("error", [("told", "a")]), "told a")
        self.check(("error", [("told", "told"), ("from", "from"), ("during", "during")]), "told told from from during during")
        self.check(("error", [("told", "ended"), ("during", "left")]), "told ended during left")
        self.check(("error", [("told", "abcdefgh"), ("during", "z")]), "told abcdefgh during z")

    def test_texts_that_nothing_told_has(self):
        for text in ["", " ", "end", "Ended", "ended ", " ended", "left ", "lefts", "ended left", "ended; left", "error",
                     "told", "told ", " told a", "told a ", "told  a", "told A", "told a1", "told abcdefghi", "told *",
                     "told a b", "told a from", "told a from ", "told a  from b", "told a from  b", "told a from b ",
                     "told a because b", "told a told b", "from a", "during a", "from a told b", "during a from b",
                     "told a, from b", "told a from b,c", "told a From b", "told a from b left", "told a ended",
                     "raise a", "step a", "leave", "told a during", "told a during abcdefghi", "a", "a told", "told,a"]:
            self.refuses(text)
            self.assertFalse(self.judge(text))
            with self.assertRaises(Unreadable):
                read_told(text=text)

    def test_one_sign_put_in_taken_out_or_exchanged(self):
        for text in ["ended", "left", "told a", "told x during a", "told ab from b during c", "told told from during"]:
            found = [self.judge(other) for other in neighbours(text, ODD_SIGNS)]
            self.assertIn(False, found)

    def test_built_words(self):
        rng = random.Random(9)
        words = ["told", "during", "from", "a", "b", "ended", "left", "", "abcdefghi", "*"]
        read = 0
        for _ in range(20000):
            read += self.judge(" ".join(rng.choice(words[:rng.choice([5, 10])]) for _ in range(rng.randint(1, 6))))
        self.assertGreater(read, 100)

    def test_what_programs_tell(self):
        for row in built_rows(300) + lossy_rows(200) + [GREAT]:
            program = Program(row)
            for told in [("error", chain) for chain in chains(program)] + [program.tells([]), program.tells(program.steps)]:
                text = show_told(told)
                self.assertEqual(read_told(text), told)
                self.assertTrue(self.judge(text))

    def test_three_thousand_characters(self):
        text = "told a" + " from b during c" * 187
        self.assertEqual(len(text), 2998)
        chain = [("told", "a")] + [("from", "b"), ("during", "c")] * 187
        self.check(("error", chain), text)
        for wrong in [text + " ", text[:-2], text + "!", " " + text, "told" * 750, " " * 3000, "a" * 3000, "told " * 600]:
            self.refuses(wrong)

    def test_the_lists_are_new(self):
        self.assertTrue(stand_alone(read_told("told a from b"), read_told("told a from b")))
        told = ("error", [("told", "a")])
        show_told(told)
        self.assertEqual(told, ("error", [("told", "a")]))
        read_told("told a")[1].clear()
        self.assertEqual(read_told("told a"), told)


if __name__ == "__main__":
    unittest.main()
