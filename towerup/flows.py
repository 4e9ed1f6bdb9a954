"""Flows: where a side goes on behind each statement, and the values of terms."""

from towerup.basics import with_item
from towerup.blocks import many_places

END = -1


def flow_of(block):
    """For each place a row like its statement, with the places that may come next in the place of blocks.

    A call and a set have the next place behind their term; an if has two, for yes and no; a while
    is an if that goes into its body or on, and the body goes back to it.
    """
    return tuple(_rows(block, 0, END))


def first_place(flow):
    """The place at which a block begins."""
    return 0 if flow else END


def value_of(program, term, values, argument):
    """The value of a term, for these values of the variables and this argument of the call."""
    if isinstance(term, tuple):
        at, size = program.variable(term[1])
        return (values[at] + term[2]) % size
    if isinstance(term, str):
        return argument if term == "arg" else values[program.variable(term)[0]]
    return term


def with_value(program, values, local, value):
    """The values of the variables when one of them, if it is named, gets a value."""
    if local == "":
        return values
    at, size = program.variable(local)
    return with_item(values, at, value % size)


def place_behind(program, row, values, argument):
    """Where the side goes on behind a row of an if."""
    is_yes = values[program.variable(row[1])[0]] == value_of(program, row[2], values, argument)
    return row[3] if is_yes else row[4]


def _rows(block, first, behind):
    """The rows of a block whose first place is told, and the place behind the block."""
    rows = []
    for at, statement in enumerate(block):
        place = first + len(rows)
        is_last = at + 1 == len(block)
        rows = rows + _statement_rows(statement, place, behind if is_last else place + many_places([statement]))
    return rows


def _statement_rows(statement, place, behind):
    if statement[0] == "return":
        return [statement]
    if statement[0] == "while":
        body = _rows(statement[3], place + 1, place)
        return [("if", statement[1], statement[2], place + 1, behind)] + body
    if statement[0] == "if":
        yes = _rows(statement[3], place + 1, behind)
        no = _rows(statement[4], place + 1 + len(yes), behind)
        ways = (place + 1 if yes else behind, place + 1 + len(yes) if no else behind)
        return [statement[:3] + ways] + yes + no
    return [statement + (behind,)]
