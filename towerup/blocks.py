"""Blocks: the statements of a program, their places, and what can be wrong with them."""

from towerup.basics import is_below, is_name, is_row

MOST_STATEMENTS = 12
MOST_DEPTH = 2
GREATEST_TERM = 3
LENGTHS = {"call": 5, "set": 3, "if": 5, "while": 4, "return": 2}


def placed(block):
    """For each statement, in the order of places: (place, depth, statement ahead in its block or None, statement).

    The blocks of a statement are looked at only when the next row is asked for, so that a loop
    that stops at the first wrong statement never goes into it.
    """
    todo = _entries(block, 0)
    place = 0
    while todo:
        depth, ahead, statement = todo.pop()
        yield place, depth, ahead, statement
        for inner in inner_blocks(statement)[::-1]:
            todo = todo + _entries(inner, depth + 1)
        place += 1


def inner_blocks(statement):
    """The blocks of an if or a while, none of another statement."""
    return tuple(statement[3:]) if statement[0] in ("if", "while") else ()


def many_places(block):
    """How many statements the block has, also inside."""
    return len(list(placed(block)))


def form_fault(variables, block):
    """(place, why) of the first statement that is none, None if all are right."""
    for place, depth, _, statement in placed(block):
        if place == MOST_STATEMENTS:
            return (place, "many")
        why = _statement_fault(variables, depth, statement)
        if why is not None:
            return (place, why)
    return None


def way_fault(block):
    """(place, why) of the first statement that is dead or idle, None if there is none."""
    for place, _, ahead, statement in placed(block):
        if ahead is not None and ends_call(ahead):
            return (place, "dead")
        if statement[0] == "while" and is_passable(statement[3]):
            return (place, "idle")
    return None


def ends_call(statement):
    """Whether the call never goes on behind this statement."""
    if statement[0] == "if":
        return all([len(block) > 0 and ends_call(block[-1]) for block in inner_blocks(statement)])
    return statement[0] == "return"


def is_passable(block):
    """Whether a way through the block meets neither a call nor a return."""
    return all([_is_passed(statement) for statement in block])


def without_place(block, place):
    """The block without the statement at the place and what stands in its blocks."""
    kept = []
    at = 0
    for statement in block:
        if at != place:
            kept.append(_inner_without(statement, place - at - 1))
        at += many_places([statement])
    return tuple(kept)


def _entries(block, depth):
    """(depth, statement ahead, statement) for the statements of a block, the last one first."""
    rows = [(depth, None, statement) for statement in block[:1]]
    rows = rows + [(depth, ahead, statement) for ahead, statement in zip(block, block[1:])]
    return rows[::-1]


def _statement_fault(variables, depth, statement):
    if not is_row(statement, 2, 5) or not isinstance(statement[0], str):
        return "statement"
    if LENGTHS.get(statement[0]) != len(statement):
        return "statement"
    if statement[0] == "call":
        return _call_fault(variables, statement)
    if statement[0] == "return":
        return None if _is_term(variables, statement[1]) else "term"
    if not _is_variable(variables, statement[1]):
        return "local"
    if not _is_term(variables, statement[2]):
        return "term"
    if not all([isinstance(block, (list, tuple)) for block in inner_blocks(statement)]):
        return "block"
    return "deep" if statement[0] != "set" and depth >= MOST_DEPTH else None


def _call_fault(variables, statement):
    _, local, thing, method, term = statement
    if local != "" and not _is_variable(variables, local):
        return "local"
    if not is_name(thing):
        return "thing"
    if not is_name(method):
        return "method"
    return None if _is_term(variables, term) else "term"


def _is_variable(variables, value):
    return isinstance(value, str) and value in variables


def _is_term(variables, term):
    if is_row(term, 3, 3):
        return term[0] == "plus" and _is_variable(variables, term[1]) and is_below(term[2], GREATEST_TERM + 1)
    return is_below(term, GREATEST_TERM + 1) or term == "arg" or _is_variable(variables, term)


def _is_passed(statement):
    if statement[0] == "if":
        return any([is_passable(block) for block in inner_blocks(statement)])
    return statement[0] in ("set", "while")


def _inner_without(statement, place):
    """The statement without that one at a place of its blocks, counted from its first one."""
    if statement[0] == "while":
        return statement[:3] + (without_place(statement[3], place),)
    if statement[0] == "if":
        yes, no = inner_blocks(statement)
        return statement[:3] + (without_place(yes, place), without_place(no, place - many_places(yes)))
    return statement
