"""Inlays: the blocks of one program in the place of the calls of a thing in another one."""

from towerup.blocks import ends_call, inner_blocks, placed

LETTERS = "abcdefghijklmnopqrstuvwxyz"


class Inlay:
    """The program of a side (outer), in which another one (inner) does the work of an atomic thing.

    `house_kind` is the kind of the house of outer; `things` has the new names of inner's things. The variables
    that join outer's have keys: (0, size) a spare one for arguments, (1, size) one for results, a name one of inner.
    """

    def __init__(self, outer, thing, inner, house_kind, things):
        self._outer = outer
        self._thing = thing
        self._inner = inner
        self._house_kind = house_kind
        self._things = things
        needed = [key for method, call in calls_of_thing(outer, thing.name) for key in self._needed(method, call)]
        keys = sorted(set(needed)) + [name for name, _, _ in inner.store]
        self._names = new_names("v", keys, [name for name, _, _ in outer.store])

    def variables(self):
        """The variables of the joined program, a dict as a Side takes it."""
        found = {name: (size, start) for name, size, start in self._outer.store}
        for key in self._names:
            if isinstance(key, tuple):
                found[self._names[key]] = (key[1], 0)
        for name, size, start in self._inner.store:
            found[self._names[name]] = (size, start)
        return found

    def joined_blocks(self):
        """The blocks of the joined program, for each method of outer."""
        return {method: self._joined(method, self._outer.block(method)) for method in self._outer.names()}

    def _joined(self, method, block):
        rows = []
        for statement in block:
            if is_call_of(statement, self._thing.name):
                rows = rows + self._inlaid(method, statement)
            else:
                rows.append(_with_blocks(statement, [self._joined(method, each) for each in inner_blocks(statement)]))
        return tuple(rows)

    def _inlaid(self, method, call):
        """The statements in the place of a call in a block of this method."""
        _, local, _, called, term = call
        arguments, results = self._numbers(called)
        needed = self._needed(method, call)
        block = self._inner.block(called)
        rows = []
        if (0, arguments) in needed:
            rows.append(("set", self._names[(0, arguments)], term))
        kept = self._names[(1, results)] if (1, results) in needed else local
        if kept != "" and not (block and ends_call(block[-1])):
            rows.append(("set", kept, 0))
        rows = rows + self._renamed(block, self._argument(method, call), kept, results)
        if kept != local:
            rows.append(("set", local, kept))
        return rows

    def _needed(self, method, call):
        """The keys of the spare variables that a call in a block of this method needs."""
        _, local, _, called, _ = call
        arguments, results = self._numbers(called)
        found = []
        if arguments > 1 and not self._fits(method, call) and _has_argument(self._inner.block(called)):
            found.append((0, arguments))
        if local != "" and results > 1 and self._outer.variable(local)[1] != results:
            found.append((1, results))
        return found

    def _numbers(self, called):
        return self._thing.kind.arguments(called), self._thing.kind.results(called)

    def _fits(self, method, call):
        """Whether the term of the call may stand wherever inner has the argument."""
        _, local, _, called, term = call
        arguments, _ = self._numbers(called)
        if isinstance(term, int):
            return term < arguments
        if term == "arg":
            return method in self._house_kind and self._house_kind.arguments(method) <= arguments
        name = _variable_of(term)
        return name != local and self._outer.variable(name)[1] <= arguments

    def _argument(self, method, call):
        """The term that stands for the argument in inner's statements."""
        arguments, _ = self._numbers(call[3])
        if arguments == 1:
            return 0
        return call[4] if self._fits(method, call) else self._names.get((0, arguments))

    def _renamed(self, block, argument, kept, results):
        """Inner's statements with the new names, and with sets in the place of returns."""
        rows = []
        for statement in block:
            word = statement[0]
            if word == "return":
                rows = rows + self._told(statement[1], argument, kept, results)
            elif word == "call":
                _, local, thing, method, term = statement
                rows.append((word, self._local(local), self._things[thing], method, self._term(term, argument)))
            else:
                head = (word, self._local(statement[1]), self._term(statement[2], argument))
                blocks = [tuple(self._renamed(each, argument, kept, results)) for each in inner_blocks(statement)]
                rows.append(head + tuple(blocks))
        return rows

    def _told(self, term, argument, kept, results):
        """What stands in the place of a return of the term."""
        if kept == "":
            return []
        return [("set", kept, 0 if results == 1 else self._term(term, argument))]

    def _local(self, local):
        return "" if local == "" else self._names[local]

    def _term(self, term, argument):
        if isinstance(term, int):
            return term
        if term == "arg":
            return argument
        return ("plus", self._names[term[1]], term[2]) if isinstance(term, tuple) else self._names[term]


def calls_of_thing(program, name):
    """All pairs (method, statement) of the calls of the thing of this name."""
    return [(method, statement) for method in program.names()
            for _, _, statement in program.walk(method) if is_call_of(statement, name)]


def is_call_of(statement, name):
    """Whether the statement is a call of the thing of this name."""
    return statement[0] == "call" and statement[2] == name


def new_names(sign, keys, taken):
    """For each key a name: the sign and a letter, ascending, leaving out those that are taken."""
    free = [sign + letter for letter in LETTERS if sign + letter not in taken]
    return {key: name for key, name in zip(keys, free)}


def returns_early(block):
    """Whether a return stands in a while, or in an if that is not the last statement of its block."""
    for at, statement in enumerate(block):
        is_end = statement[0] != "while" and at + 1 == len(block)
        if statement[0] != "return" and not is_end and _has_return([statement]):
            return True
        if any([returns_early(inner) for inner in inner_blocks(statement)]):
            return True
    return False


def _has_return(block):
    return any([statement[0] == "return" for _, _, _, statement in placed(block)])


def _has_argument(block):
    """Whether the argument of the call stands in the block."""
    return any(["arg" == _term_of(statement) for _, _, _, statement in placed(block)])


def _term_of(statement):
    if statement[0] == "call":
        return statement[4]
    return statement[1] if statement[0] == "return" else statement[2]


def _variable_of(term):
    return term[1] if isinstance(term, tuple) else term


def _with_blocks(statement, blocks):
    """The statement with other blocks inside, if it has some."""
    return statement[:3] + tuple(blocks) if blocks else statement
