"""Rows of statements: whether they are right, copies of them, what they name, and the places in them."""

from toldatlast.errors import InvalidName, InvalidStatement, NothingHandled

LETTERS = "abcdefghijklmnopqrstuvwxyz"
LONGEST_NAME = 8
# How many things each statement has, its first text counted.
SIZES = {"step": 2, "raise": 2, "from": 2, "hide": 2, "again": 1, "leave": 1, "guard": 4}
# What a place says for a part of a guard.
BODY = 0
LAST = 1
FIRST_HANDLER = 2


def check_row(row, way, handled):
    """Raise the first error of a row to which a way leads; `handled` tells whether it stands in a handler."""
    for at, statement in enumerate(row):
        check_statement(statement, way + [at], handled)


def check_statement(statement, place, handled):
    """Raise the first error of a statement, and of all those within it."""
    if not is_statement(statement):
        raise InvalidStatement(place)
    if statement[0] == "guard":
        check_guard(statement, place, handled)
        return
    check_names(statement[1:])
    if statement[0] in ("again", "from") and not handled:
        raise NothingHandled(place)


def check_guard(guard, place, handled):
    """Raise the first error of the rows of a guard, and of the names of its handlers."""
    _, body, handlers, last = guard
    check_row(body, place + [BODY], handled)
    for at, (names, row) in enumerate(handlers):
        if names is not None:
            check_names(names)
        check_row(row, place + [FIRST_HANDLER + at], True)
    check_row(last, place + [LAST], handled)


def check_names(names):
    """Raise an error for the first of some names that is none."""
    for name in names:
        if not is_name(name):
            raise InvalidName(name)


def is_statement(statement):
    """Tell whether a tuple begins as a statement does, and has as many things."""
    return bool(statement) and SIZES.get(statement[0]) == len(statement)


def is_name(text):
    """Tell whether a text is a name."""
    return 1 <= len(text) <= LONGEST_NAME and all([letter in LETTERS for letter in text])


def copied_row(row):
    """Return a copy of a row that shares no list with it."""
    return [copied_statement(statement) for statement in row]


def copied_statement(statement):
    """Return a copy of a statement that shares no list with it."""
    if statement[0] != "guard":
        return statement
    _, body, handlers, last = statement
    return ("guard", copied_row(body), [copied_handler(handler) for handler in handlers], copied_row(last))


def copied_handler(handler):
    """Return a copy of a handler that shares no list with it."""
    names, row = handler
    if names is None:
        return (None, copied_row(row))
    return (list(names), copied_row(row))


def inner_rows(statement):
    """Return the rows of a guard, each at the number that places give to it; none of another statement."""
    if statement[0] != "guard":
        return []
    _, body, handlers, last = statement
    return [body, last] + [handler[1] for handler in handlers]


def all_statements(row):
    """Return the statements of a row and of all rows within it."""
    found = []
    for statement in row:
        found.append(statement)
        for inner in inner_rows(statement):
            found.extend(all_statements(inner))
    return found


def all_places(row):
    """Return the places of all statements of a row and of the rows within it, ascending."""
    found = []
    for at, statement in enumerate(row):
        found.append([at])
        for part, inner in enumerate(inner_rows(statement)):
            found.extend([[at, part] + place for place in all_places(inner)])
    return found


def row_around(row, place):
    """Return the very row in which the statement at a place stands, None if there is no such statement."""
    if not place or not 0 <= place[0] < len(row):
        return None
    if len(place) == 1:
        return row
    parts = inner_rows(row[place[0]])
    if not 0 <= place[1] < len(parts):
        return None
    return row_around(parts[place[1]], place[2:])


def row_steps(row):
    """Return the names of the steps of a row and of the rows within it, ascending, each once."""
    return sorted({statement[1] for statement in all_statements(row) if statement[0] == "step"})


def row_names(row):
    """Return all names of a row and of the rows within it, ascending, each once."""
    return sorted({name for statement in all_statements(row) for name in own_names(statement)})


def own_names(statement):
    """Return the names of a statement; of a guard, those of its handlers."""
    if statement[0] != "guard":
        return list(statement[1:])
    return [name for names, _ in statement[2] if names is not None for name in names]
