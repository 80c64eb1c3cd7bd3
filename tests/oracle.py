"""What the tests compare the program with: Python's own exceptions, plain searches over all lots, built programs."""

import itertools
import random
import sys
from functools import lru_cache


class Raised(Exception):
    """The common base of the exceptions that stand for a program's errors."""


def guard(body=(), handlers=(), last=()):
    """A guard, for tests that are written by hand."""
    return ("guard", list(body), list(handlers), list(last))


# Fourteen statements, guards four deep, eight unlike names.
GREAT = [("step", "h"), guard([("step", "a"), guard([("step", "b"), guard([("step", "c"), guard(
    [("step", "d")], [(None, [("step", "e")])], [("step", "f")])], [], [("step", "g")])])], [(["a", "d"], [
        ("step", "c"), ("again",)])])]


class Classes(dict):
    """A class of exceptions for each name, made when it is asked for."""

    def __missing__(self, name):
        self[name] = type("Raised_" + name, (Raised,), {"told_as": name})
        return self[name]


CLASSES = Classes()
CAUSES = {"raise": "", "from": " from sys.exc_info()[1]", "hide": " from None"}


def python_lines(row, depth):
    """Write a row as lines of Python, in which errors are exceptions."""
    pad = "    " * depth
    lines = []
    for statement in row:
        word = statement[0]
        if word == "step":
            lines.append(f"{pad}step({statement[1]!r})")
        elif word in CAUSES:
            lines.append(f"{pad}raise CLASSES[{statement[1]!r}](){CAUSES[word]}")
        elif word == "again":
            lines.append(f"{pad}raise")
        elif word == "leave":
            lines.append(f"{pad}return 'left'")
        else:
            _, body, handlers, last = statement
            lines.append(f"{pad}try:")
            lines.extend(python_lines(body, depth + 1))
            for names, inner in handlers:
                caught = "Raised" if names is None else "(" + "".join(f"CLASSES[{n!r}], " for n in names) + ")"
                lines.append(f"{pad}except {caught}:")
                lines.extend(python_lines(inner, depth + 1))
            lines.append(f"{pad}finally:")
            lines.extend(python_lines(last, depth + 1))
    return lines + [f"{pad}pass"]


@lru_cache(maxsize=None)
def compiled(text):
    """Compile a text once."""
    return compile(text, "<row>", "exec")


def observe(row, lot):
    """Run a row as Python; return what is told at last, and the names of the steps that were run."""
    text = "\n".join(["def main():"] + python_lines(row, 1) + ["    return 'ended'"])
    done = []

    def step(name):
        done.append(name)
        if name in lot:
            raise CLASSES[name]()

    space = {"CLASSES": CLASSES, "Raised": Raised, "step": step, "sys": sys}
    exec(compiled(text), space)
    try:
        out = (space["main"](),)
    except Raised as error:
        out = ("error", chain_of(error))
    return out, done


def chain_of(error):
    """The chain that Python itself would print of an exception, the last one first."""
    chain = [("told", error.told_as)]
    while True:
        if error.__cause__ is not None:
            error = error.__cause__
            chain.append(("from", error.told_as))
        elif error.__context__ is not None and not error.__suppress_context__:
            error = error.__context__
            chain.append(("during", error.told_as))
        else:
            return chain


def told(row, lot):
    """What is told at last."""
    return observe(row, lot)[0]


def placed(row, way=()):
    """All (place, statement) of a row and the rows within it."""
    for at, statement in enumerate(row):
        place = [*way, at]
        yield place, statement
        if statement[0] == "guard":
            for part, inner in enumerate([statement[1], statement[3]] + [h[1] for h in statement[2]]):
                yield from placed(inner, [*place, part])


def steps_of(row):
    """The names of the steps, ascending."""
    return sorted({statement[1] for _, statement in placed(row) if statement[0] == "step"})


def names_of(row):
    """All names, ascending."""
    found = set()
    for _, statement in placed(row):
        if statement[0] == "guard":
            found.update(name for names, _ in statement[2] for name in names or [])
        else:
            found.update(statement[1:])
    return sorted(found)


def lots(steps):
    """All lots of some steps, by their number of names, then as ascending lists."""
    every = [[step for step, is_in in zip(steps, pattern) if is_in]
             for pattern in itertools.product([False, True], repeat=len(steps))]
    return sorted(every, key=lambda lot: (len(lot), sorted(lot)))


def first_unlike(one, other):
    """The first lot that parts two rows, found by running both for each lot."""
    for lot in lots(sorted(set(steps_of(one) + steps_of(other)))):
        if told(one, lot) != told(other, lot):
            return lot
    return None


def changed(row, place, change):
    """A row in which `change` stands in for the row from which a place takes its last index."""
    at = place[0]
    if len(place) == 1:
        return change(row, at)
    word, body, handlers, last = row[at]
    part, rest = place[1], place[2:]
    if part == 0:
        body = changed(body, rest, change)
    elif part == 1:
        last = changed(last, rest, change)
    else:
        handlers = list(handlers)
        handlers[part - 2] = (handlers[part - 2][0], changed(handlers[part - 2][1], rest, change))
    return row[:at] + [(word, body, handlers, last)] + row[at + 1:]


def without(row, place):
    """A row without the statement at a place."""
    return changed(row, place, lambda inner, at: inner[:at] + inner[at + 1:])


def swapped(row, place):
    """A row in which the statement at a place and the next one have changed places."""
    return changed(row, place, lambda inner, at: inner[:at] + [inner[at + 1], inner[at]] + inner[at + 2:])


class Builder:
    """Builds rows by a fixed seed."""

    def __init__(self, seed, letters="abcd", most=12, depth=3):
        self.rng = random.Random(seed)
        self.letters = letters
        self.left = self.rng.randint(most // 3, most)
        self.depth = depth

    def row(self, handled=False, depth=0):
        """A row that may stand in a handler, or in none."""
        return [self.statement(handled, depth) for _ in range(self.rng.choice([0, 1, 2, 2, 2, 3])) if self.take()]

    def take(self):
        """Use up one of the statements that are left."""
        self.left -= 1
        return self.left >= 0

    def statement(self, handled, depth):
        """A statement of any kind that may stand here."""
        words = ["step"] * 8 + ["raise", "hide", "leave"]
        if handled:
            words += ["from", "from", "again", "again"]
        if depth < self.depth:
            words += ["guard"] * 9
        word = self.rng.choice(words)
        if word in ("again", "leave"):
            return (word,)
        if word != "guard":
            return (word, self.rng.choice(self.letters))
        body = self.row(handled, depth + 1)
        handlers = [self.handler(depth) for _ in range(self.rng.choice([0, 1, 1, 2]))]
        return ("guard", body, handlers, self.row(handled, depth + 1))

    def handler(self, depth):
        """A handler of some errors, or of all."""
        names = None
        if self.rng.random() < 0.5:
            names = self.rng.sample(self.letters, self.rng.randint(0, 2))
        return (names, self.row(True, depth + 1))


def built_rows(many, first=0, **options):
    """Rows of programs, always the same ones; empty ones are left out."""
    rows = (Builder(seed, **options).row() for seed in itertools.count(first))
    return list(itertools.islice((row for row in rows if row), many))


def great_row():
    """A row of 60 statements, with guards 6 deep and 30 names."""
    names = ["n" + chr(97 + at) for at in range(26)] + ["ma", "mb", "mc", "md"]
    row = [("step", names[24]), ("raise", names[25])]
    for at in range(6):
        one, two, three, four = names[4 * at:4 * at + 4]
        handlers = [([one, two], [("again",), ("step", three)]), (None, [("from", four), ("leave",)])]
        row = [("step", one), guard(row, handlers, [("step", two), ("step", three)]), ("step", four)]
    return row + [("step", names[26 + at]) for at in (0, 1, 2, 3)]


def lists_within(value):
    """All lists in a value, once for each place in which they stand."""
    found = [value] if isinstance(value, list) else []
    if isinstance(value, (list, tuple)):
        for part in value:
            found.extend(lists_within(part))
    return found


def stand_alone(*values):
    """Tell whether each list in some values stands in one place alone."""
    every = [id(part) for value in values for part in lists_within(value)]
    return len(every) == len(set(every))
