"""What several tests need: odd values, kinds and histories, and slow reckonings by the words of DOC.md."""

from itertools import permutations, product

from towerup.contracts import Contract, free, only
from towerup.errors import BadHouse, BadKind, BadLimit, BadSide, TooMany, TowerError
from towerup.houses import House, plain
from towerup.kinds import Kind
from towerup.lots import first_lot, lot_behind
from towerup.programs import Side
from towerup.runs import Running, run
from towerup.shelf import cell, choose, counter, flag, queue, swap
from towerup.steps import event_of, initial, moves, wrongs
from towerup.things import Atomic, Weak
from towerup.verdicts import sizes

GREAT = 600


def nested(depth):
    value = 0
    for level in range(depth):
        value = ([value], (value,), {"x": value}, {"x": [value], (level,): value})[level % 4]
    return value


def odd_values():
    """Values of each kind that [2.2] names; many are right somewhere, so tests leave those out."""
    return [
        None, True, False,
        -1, 0, 1, 2, 3, 4, 5, 7, 8, 9, 16, 60, 61, 4001, -(10 ** 30), 10 ** 30,
        "", "get", "set", "Get", "get ", " ", "\n", "a b", "getgetge", "getgetget", "call", "told", "0", "~", "a1", "a_",
        [], [0], [1, 0], [0, 0], [None], ["get"], [[]], [[0]], ["get", 0, 0], [{}], [True],
        (), (0,), (1, 0), (0, 0), (None,), ("get",), ((),), ((0,),), ("get", 0, 0), ({},), (False,),
        {}, {"get": 0}, {0: "get"}, {None: None}, {"get": {}}, {(0, "get"): [0]}, {True: False},
        nested(3), nested(20), [nested(20)], (nested(19),), {"get": nested(19)},
        cell(2), flag(), BadKind("states"), TowerError("told"), [cell(2)], (cell(2), 0), {"get": cell(2)},
        free(cell(2), 1), Atomic("x", cell(2)), Weak("x", "safe", 2), Side({}, {"get": []}),
        [free(cell(2), 1)], (Atomic("x", cell(2)),), [Side({}, {"get": []})], {"x": Weak("x", "safe", 2)},
        plain(cell(2), free(cell(2), 1)), Running(plain(cell(2), free(cell(2), 1))),
        run(plain(cell(2), free(cell(2), 1)), []), [plain(cell(2), free(cell(2), 1))],
    ]


def is_int(value):
    return isinstance(value, int) and value is not True and value is not False


def not_below(bound):
    """The odd values that are no integers from 0 to bound - 1."""
    return [value for value in odd_values() if not (is_int(value) and 0 <= value < bound)]


def not_between(least, greatest):
    return [value for value in odd_values() if not (is_int(value) and least <= value <= greatest)]


def rows_of(kind):
    """The kind as a plain dict: name -> (arguments, results, rows)."""
    return {
        name: (kind.arguments(name), kind.results(name), [
            [kind.answers(state, name, argument) for argument in range(kind.arguments(name))]
            for state in range(kind.states)])
        for name in kind.names()}


def random_row(rnd, states, results, most):
    every = list(product(range(results), range(states)))
    rnd.shuffle(every)
    return every[:rnd.randint(0, min(most, len(every)))]


def random_kind(rnd, most_states=8, most_methods=4, most_numbers=4, most_answers=8, least_answers=0):
    states = rnd.randint(1, most_states)
    names = rnd.sample(["a", "b", "get", "set", "put", "swap", "zz", "aaaaaaaa"], rnd.randint(1, most_methods))
    methods = {}
    for name in names:
        arguments, results = rnd.randint(1, most_numbers), rnd.randint(1, most_numbers)
        rows = [[random_row(rnd, states, results, most_answers) for _ in range(arguments)] for _ in range(states)]
        for row in [each for part in rows for each in part]:
            while len(row) < least_answers:
                row.append((rnd.randrange(results), rnd.randrange(states)))
        methods[name] = (arguments, results, rows)
    return Kind(states, rnd.randrange(states), methods)


def changed_kind(rnd, kind):
    """The kind with one answer more or less in some row."""
    methods = rows_of(kind)
    name = rnd.choice(kind.names())
    arguments, results, rows = methods[name]
    state, argument = rnd.randrange(kind.states), rnd.randrange(arguments)
    answer = (rnd.randrange(results), rnd.randrange(kind.states))
    row = list(rows[state][argument])
    if answer in row:
        row.remove(answer)
    elif len(row) < 8:
        row.append(answer)
    rows[state][argument] = row
    return Kind(kind.states, kind.start, methods)


def renumbered(kind, places):
    """The kind with the state s called places[s]."""
    methods = {}
    for name, (arguments, results, rows) in rows_of(kind).items():
        other = [None] * kind.states
        for state, row in enumerate(rows):
            other[places[state]] = [[(result, places[after]) for result, after in answers] for answers in row]
        methods[name] = (arguments, results, other)
    return Kind(kind.states, places[kind.start], methods)


def lossy():
    """A small kind with missing rows and several answers."""
    return Kind(3, 0, {
        "go": (2, 2, [[[(0, 1), (1, 2)], []], [[], [(0, 0), (0, 2)]], [[(1, 2)], [(0, 1), (1, 1)]]]),
        "ask": (1, 3, [[[(0, 0)]], [[(1, 1), (2, 1)]], [[]]]),
    })


def some_kinds():
    return [cell(2), cell(3, 1), counter(3), flag(), swap(2), choose(2), queue(2, 1), lossy()]


def random_history(rnd, kind, sides, length, wrong=0.3):
    """A history whose results mostly come of a machine, so that many are explained."""
    events, under, state = [], [None] * sides, kind.start
    while len(events) < length:
        side = rnd.randrange(sides)
        if under[side] is None:
            method = rnd.choice(kind.names())
            under[side] = (method, rnd.randrange(kind.arguments(method)), None)
            events.append(("call", side, *under[side][:2]))
        elif under[side][2] is None and rnd.random() < 0.5:
            method, argument, _ = under[side]
            answers = kind.answers(state, method, argument)
            if answers and rnd.random() >= wrong:
                result, state = rnd.choice(answers)
            else:
                result = rnd.randrange(kind.results(method))
            under[side] = (method, argument, result)
        elif under[side][2] is not None and rnd.random() < 0.6:
            events.append(("told", side, under[side][2]))
            under[side] = None
    return events


def all_histories(kind, sides, length):
    """All histories of just this many events."""
    found = [([], (None,) * sides)]
    for _ in range(length):
        longer = []
        for events, under in found:
            for side in range(sides):
                if under[side] is None:
                    for method in kind.names():
                        for argument in range(kind.arguments(method)):
                            longer.append((events + [("call", side, method, argument)],
                                           under[:side] + (method,) + under[side + 1:]))
                else:
                    for result in range(kind.results(under[side])):
                        longer.append((events + [("told", side, result)],
                                       under[:side] + (None,) + under[side + 1:]))
        found = longer
    return [events for events, _ in found]


def slow_calls(history):
    """Each call as a dict, found by looking ahead for the end of each begin."""
    calls = []
    for begin, event in enumerate(history):
        if event[0] != "call":
            continue
        ends = [at for at in range(begin + 1, len(history))
                if history[at][0] == "told" and history[at][1] == event[1]]
        calls.append({"side": event[1], "method": event[2], "argument": event[3], "begin": begin,
                      "end": ends[0] if ends else None,
                      "result": history[ends[0]][2] if ends else None})
    return calls


def slow_ways(kind, calls, order):
    """All rows of (result, state behind it) that the calls in this order can give."""
    ways = [[(None, kind.start)]]
    for number in order:
        call = calls[number]
        ways = [way + [(result, after)] for way in ways
                for result, after in kind.answers(way[-1][1], call["method"], call["argument"])
                if call["result"] is None or call["result"] == result]
    return [way[1:] for way in ways]


def slow_placed(calls):
    """All choices of calls: the told ones, and some, none or all of the others."""
    told = [number for number, call in enumerate(calls) if call["end"] is not None]
    rest = [number for number, call in enumerate(calls) if call["end"] is None]
    for flags in product((False, True), repeat=len(rest)):
        yield sorted(told + [number for number, taken in zip(rest, flags) if taken])


def slow_orders(kind, history):
    """All orders by the words of [8.1], ascending."""
    calls = slow_calls(history)
    orders = []
    for chosen in slow_placed(calls):
        for order in permutations(chosen):
            if slow_ahead(calls, order) == [] and slow_ways(kind, calls, order):
                orders.append(order)
    return sorted(orders)


def slow_ahead(calls, order):
    """All pairs (i, j) of calls of the order such that i ends ahead of the begin of j and j stands ahead of i."""
    return sorted([(i, j) for place, j in enumerate(order) for i in order[place + 1:]
                   if calls[i]["end"] is not None and calls[i]["end"] < calls[j]["begin"]])


def slow_moments(kind, sides, history):
    """All (state, statuses) behind the history, by moments in the gaps between events ([7.1])."""
    calls = slow_calls(history)
    found = set()
    for chosen in slow_placed(calls):
        gaps = []
        for number in chosen:
            end = calls[number]["end"]
            last = len(history) if end is None else end
            gaps.append(range(calls[number]["begin"] + 1, last + 1))
        orders = set()
        for places in product(*gaps):
            for order in permutations(range(len(chosen))):
                if all(places[a] <= places[b] for a, b in zip(order, order[1:])):
                    orders.add(tuple(chosen[at] for at in order))
        for order in orders:
            for way in slow_ways(kind, calls, order):
                found.add(slow_configuration(kind, sides, calls, order, way))
    return tuple(sorted(found))


def slow_configuration(kind, sides, calls, order, way):
    state = way[-1][1] if way else kind.start
    statuses = [(0,)] * sides
    for number, call in enumerate(calls):
        if call["end"] is None:
            statuses[call["side"]] = (1, call["method"], call["argument"])
            if number in order:
                statuses[call["side"]] = (2, way[order.index(number)][0])
    return (state, tuple(statuses))


def slow_lot(kind, sides, history):
    """The lot by the words of [7.2], with no thought for speed."""
    configurations = {(kind.start, ((0,),) * sides)}
    for event in history:
        side = event[1]
        if event[0] == "told":
            configurations = {(state, statuses[:side] + ((0,),) + statuses[side + 1:])
                              for state, statuses in configurations if statuses[side] == (2, event[2])}
            continue
        configurations = {(state, statuses[:side] + ((1, event[2], event[3]),) + statuses[side + 1:])
                          for state, statuses in configurations}
        size = -1
        while size != len(configurations):
            size = len(configurations)
            for state, statuses in sorted(configurations):
                for other, status in enumerate(statuses):
                    if status[0] == 1:
                        for result, after in kind.answers(state, status[1], status[2]):
                            configurations.add((after, statuses[:other] + ((2, result),) + statuses[other + 1:]))
    return tuple(sorted(configurations))


def random_contract(rnd, kind, sides, modes=4, let=0.7):
    """A contract whose modes may all come or not."""
    return Contract(kind, random_rules(rnd, kind, sides, modes, let))


def random_rules(rnd, kind, sides, modes=4, let=0.7):
    return [{(mode, name): [rnd.randrange(modes) for _ in range(kind.results(name))]
             for mode in range(modes) for name in kind.names() if rnd.random() < let} for _ in range(sides)]


def random_store(rnd):
    names = rnd.sample(["x", "y", "z", "plus", "call", "abcdefgh", "r"], rnd.randint(0, 4))
    sizes = {name: rnd.randint(2, 4) for name in names}
    return {name: rnd.choice((list, tuple))((size, rnd.randrange(size))) for name, size in sizes.items()}


def random_term(rnd, store):
    if store and rnd.random() < 0.5:
        name = rnd.choice(sorted(store))
        return rnd.choice((name, ("plus", name, rnd.randint(0, 3)), ["plus", name, rnd.randint(0, 3)]))
    return rnd.choice(("arg", rnd.randint(0, 3)))


def random_statement(rnd, store, calls, depth):
    words = ["call"] * 4 * (len(calls) > 0) + ["return"]
    if store:
        words += ["set", "set"] + ["if", "if", "while"] * (depth < 2)
    word = rnd.choice(words)
    row = [word]
    if word != "return":
        row.append(rnd.choice(sorted(store) + [""] * (word == "call")))
    if word == "call":
        row += rnd.choice(calls)
    row.append(random_term(rnd, store))
    for _ in range({"if": 2, "while": 1}.get(word, 0)):
        row.append(random_block(rnd, store, calls, depth + 1))
    return rnd.choice((list, tuple))(row)


def random_block(rnd, store, calls, depth=0):
    """A block of statements, which need not stand to the rules."""
    many = rnd.randint(0, 4 - depth)
    return rnd.choice((list, tuple))([random_statement(rnd, store, calls, depth) for _ in range(many)])


def random_right_block(rnd, store, calls):
    """A block that a Side takes."""
    while True:
        block = random_block(rnd, store, calls)
        if slow_side_fault(store, {"m": block}) is None:
            return block


def slow_side_fault(store, methods):
    """The values of BadSide by the words of [10.3] and [10.4], None if the side can be made."""
    if not (isinstance(store, dict) and len(store) <= 4 and all(
            slow_name(name) and name != "arg" and isinstance(row, (list, tuple)) and len(row) == 2
            and is_int(row[0]) and row[0] in (2, 3, 4) and is_int(row[1]) and 0 <= row[1] < row[0]
            for name, row in store.items())):
        return ("", -1, "store")
    if not (isinstance(methods, dict) and 1 <= len(methods) <= 4 and all(
            slow_name(name) and isinstance(block, (list, tuple)) for name, block in methods.items())):
        return ("", -1, "methods")
    for look in (slow_forms, slow_ways_through):
        for name in sorted(methods):
            for place, why in look(store, methods[name]):
                if why is not None:
                    return (name, place, why)
    return None


def slow_name(value):
    return isinstance(value, str) and 1 <= len(value) <= 8 and set(value) <= set("abcdefghijklmnopqrstuvwxyz")


def slow_forms(store, block):
    """(place, first reason or None) for the statements of a block, by [10.4]."""
    place = 0

    def visit(rows, depth):
        nonlocal place
        for statement in rows:
            why = "many" if place == 12 else slow_reason(store, statement, depth)
            yield place, why
            place += 1
            if statement[0] in ("if", "while"):
                for inner in statement[3:]:
                    yield from visit(inner, depth + 1)
    return visit(block, 0)


def slow_reason(store, statement, depth):
    def variable(value):
        return isinstance(value, str) and value in store

    def right_term(value):
        if isinstance(value, (list, tuple)):
            return (len(value) == 3 and isinstance(value[0], str) and value[0] == "plus" and variable(value[1])
                    and is_int(value[2]) and 0 <= value[2] <= 3)
        return is_int(value) and 0 <= value <= 3 or isinstance(value, str) and (value == "arg" or value in store)

    forms = (("call", 5), ("set", 3), ("if", 5), ("while", 4), ("return", 2))
    if not isinstance(statement, (list, tuple)) or len(statement) == 0 or not isinstance(statement[0], str):
        return "statement"
    word = statement[0]
    if (word, len(statement)) not in forms:
        return "statement"
    if word != "return" and not variable(statement[1]) and not (word == "call" and statement[1] == ""):
        return "local"
    if word == "call" and not slow_name(statement[2]):
        return "thing"
    if word == "call" and not slow_name(statement[3]):
        return "method"
    if not right_term(statement[{"call": 4, "return": 1}.get(word, 2)]):
        return "term"
    if word in ("if", "while") and not all(isinstance(inner, (list, tuple)) for inner in statement[3:]):
        return "block"
    return "deep" if word in ("if", "while") and depth == 2 else None


def slow_ways_through(store, block):
    """(place, "dead" or "idle" or None) for the statements of a block, by [10.4]."""
    def ends(statement):
        if statement[0] == "if":
            return all(inner and ends(inner[-1]) for inner in statement[3:])
        return statement[0] == "return"

    def ways(rows):
        """What is met on each way through a block."""
        found = [[]]
        for statement in rows:
            met = {"call": [["call"]], "return": [["return"]], "set": [[]]}.get(statement[0])
            if statement[0] == "if":
                met = ways(statement[3]) + ways(statement[4])
            if statement[0] == "while":
                met = [[]] + ways(statement[3])
            found = [way + more for way in found for more in met]
        return found

    rows = []

    def visit(inner):
        for at, statement in enumerate(inner):
            why = None
            if statement[0] == "while" and [] in ways(statement[3]):
                why = "idle"
            if at > 0 and ends(inner[at - 1]):
                why = "dead"
            rows.append((len(rows), why))
            for block in statement[3:] if statement[0] in ("if", "while") else ():
                visit(block)
    visit(block)
    return rows


def side_fault(store, methods):
    """The values of the BadSide that a Side raises, None if it can be made."""
    try:
        Side(store, methods)
    except BadSide as error:
        return (error.method, error.place, error.why)
    return None


def random_things(rnd, many, sides):
    """Atomic and weak things; the kinds may have missing rows and several answers."""
    things = []
    for name in rnd.sample(["c", "d", "e", "x", "abcdefgh"], many):
        if rnd.random() < 0.4:
            size = rnd.randint(2, 4)
            things.append(Weak(name, rnd.choice(("safe", "regular")), size, rnd.randrange(size),
                               owner=rnd.randrange(3) if rnd.random() < 0.2 else rnd.randrange(sides)))
        else:
            kind = rnd.choice(some_kinds() + [random_kind(rnd, 4, 3, 3, 2)] * 4)
            things.append(Atomic(name, kind))
    return things


def calls_of_side(things, side):
    """All (thing, method) that a program of the side may call."""
    return [(thing.name, method) for thing in things for method in thing.kind.names()
            if isinstance(thing, Atomic) or method == "get" or thing.owner == side]


def random_program(rnd, kind, things, side):
    store = random_store(rnd)
    names = kind.names() + ["more"] * (len(kind.names()) < 4 and rnd.random() < 0.2)
    return Side(store, {name: random_right_block(rnd, store, calls_of_side(things, side)) for name in names})


def random_house(rnd, most_things=4, most_sides=3, kind=None):
    """A house whose programs do anything; it mostly breaks."""
    kind = kind or rnd.choice(some_kinds() + [random_kind(rnd, 4, 3, 3, 3)] * 2)
    sides = rnd.randint(1, most_sides)
    things = random_things(rnd, rnd.randint(1, most_things), sides)
    contract = random_contract(rnd, kind, sides, rnd.choice((1, 1, 2, 3)), let=0.8)
    return House(kind, things, contract, [random_program(rnd, kind, things, side) for side in range(sides)])


class SlowHouse:
    """A run of a house by the words of sections 10 and 12: each state is reckoned anew from all steps."""

    def __init__(self, house, steps=()):
        self.house = house
        self.atoms = {thing.name: thing.kind.start for thing in house.things if isinstance(thing, Atomic)}
        self.uses = []
        self.sides = [{"mode": 0, "values": {name: start for name, _, start in program.store}, "program": None}
                      for program in house.sides]
        for moment, step in enumerate(steps):
            self.take(moment, *step)

    def take(self, moment, side, word, method, number):
        own = self.sides[side]
        if word == "call":
            own.update(method=method, argument=number, use=None)
            own["program"] = self.program(self.house.sides[side].block(method), own, number)
            self.go_on(own, None)
        elif word == "do":
            _, _, thing, called, value = own["wants"]
            result, self.atoms[thing] = self.answers(thing, called, value)[number]
            self.go_on(own, result)
        elif word == "start":
            _, _, thing, called, value = own["wants"]
            own["use"] = {"side": side, "thing": thing, "method": called, "start": moment, "finish": None,
                          "value": value % self.house.thing(thing).kind.arguments(called)}
            self.uses.append(own["use"])
        elif word == "finish":
            own["use"]["finish"] = moment
            own["use"] = None
            self.go_on(own, 0 if number == -1 else number)
        elif word == "told":
            own["mode"] = self.house.contract.rules()[side][(own["mode"], own["method"])][number]
            own["program"] = None

    def answers(self, thing, method, value):
        kind = self.house.thing(thing).kind
        return kind.answers(self.atoms[thing], method, value % kind.arguments(method))

    def go_on(self, own, result):
        """The side runs up to what it wants: a call of a thing, or to tell a value."""
        try:
            own["wants"] = own["program"].send(result)
        except StopIteration as end:
            told = 0 if end.value is None else end.value
            own["wants"] = ("tell", told % self.house.kind.results(own["method"]))

    def program(self, block, own, argument):
        """The run of a program: it tells each call of a thing that it wants and is sent the result."""
        values = own["values"]
        side = [each is own for each in self.sides].index(True)
        sizes = {name: size for name, size, _ in self.house.sides[side].store}

        def reckon(term):
            if isinstance(term, tuple):
                return (values[term[1]] + term[2]) % sizes[term[1]]
            return argument if term == "arg" else values.get(term, term)

        def count(rows):
            return sum(1 + sum(count(inner) for inner in statement[3:] if statement[0] in ("if", "while"))
                       for statement in rows)

        def play(rows, place):
            """(True, value) of a return, (False, None) at the end of the rows."""
            for statement in rows:
                word, first = statement[0], place
                place += count([statement])
                if word == "return":
                    return True, reckon(statement[1])
                if word == "set":
                    values[statement[1]] = reckon(statement[2]) % sizes[statement[1]]
                elif word == "call":
                    result = yield ("call", first, statement[2], statement[3], reckon(statement[4]))
                    if statement[1] != "":
                        values[statement[1]] = result % sizes[statement[1]]
                elif word == "if":
                    yes = values[statement[1]] == reckon(statement[2])
                    inner = first + 1 if yes else first + 1 + count(statement[3])
                    ended = yield from play(statement[3] if yes else statement[4], inner)
                    if ended[0]:
                        return ended
                else:
                    while values[statement[1]] == reckon(statement[2]):
                        ended = yield from play(statement[3], first + 1)
                        if ended[0]:
                            return ended
            return False, None

        ended = yield from play(block, 0)
        return ended[1]

    def value_at(self, thing, moment):
        """The value of a weak cell: that of the last set that finished ahead of the moment."""
        sets = [use for use in self.uses if use["thing"] == thing.name and use["method"] == "set"
                and use["finish"] is not None and use["finish"] < moment]
        return max(sets, key=lambda use: use["finish"])["value"] if sets else thing.start

    def may_tell(self, use):
        """What a get under way may tell by now, by [10.2]."""
        thing = self.house.thing(use["thing"])
        overlapping = [each["value"] for each in self.uses if each["thing"] == thing.name and each["method"] == "set"
                       and (each["finish"] is None or each["finish"] > use["start"])]
        if use["side"] == thing.owner or not overlapping:
            return [self.value_at(thing, use["start"])]
        if thing.word == "safe":
            return list(range(thing.size))
        return sorted({self.value_at(thing, use["start"]), *overlapping})

    def state(self):
        return (tuple(self.part(side) for side in range(len(self.sides))),
                tuple(self.stuff(thing) for thing in self.house.things))

    def part(self, side):
        own = self.sides[side]
        values = tuple(own["values"][name] for name in sorted(own["values"]))
        if own["program"] is None:
            return (own["mode"], 0, "", -1, -1, values, -1)
        begun = (own["mode"], self.phase(own), own["method"], own["argument"])
        if own["wants"][0] == "tell":
            return (*begun, -1, values, own["wants"][1])
        return (*begun, own["wants"][1], values, -1)

    def phase(self, own):
        if own["program"] is None:
            return 0
        if own["wants"][0] == "tell":
            return 3
        return 1 if own["use"] is None else 2

    def stuff(self, thing):
        if isinstance(thing, Atomic):
            return (self.atoms[thing.name],)
        under = [use for use in self.uses if use["thing"] == thing.name and use["finish"] is None]
        sets = [use["value"] for use in under if use["method"] == "set"]
        seens = [()] * len(self.sides)
        for use in under:
            if use["method"] == "get" and use["side"] != thing.owner:
                seens[use["side"]] = tuple(self.may_tell(use))
        return (self.value_at(thing, 10 ** 9), sets[0] if sets else -1, tuple(seens))

    def choices(self):
        """All steps that are possible, wrong ones too, ascending."""
        found = []
        for side, own in enumerate(self.sides):
            phase = self.phase(own)
            if phase == 0:
                found += [(side, "call", method, argument)
                          for mode, method in self.house.contract.rules()[side] if mode == own["mode"]
                          for argument in range(self.house.kind.arguments(method))]
            elif phase == 3:
                found.append((side, "told", "", own["wants"][1]))
            elif phase == 2:
                use = own["use"]
                found += [(side, "finish", "", told)
                          for told in (self.may_tell(use) if use["method"] == "get" else [-1])]
            elif own["wants"][2] in self.atoms:
                answers = self.answers(*own["wants"][2:])
                found += [(side, "do", "", index) for index in range(len(answers))] or [(side, "wrong", "", -1)]
            else:
                found.append((side, "start", "", -1))
        return sorted(found)


def counting(sides=2, size=2):
    """The house of section 22: it counts by a cell that is got and then set."""
    block = [("call", "x", "c", "get", 0), ("call", "", "c", "set", ("plus", "x", 1)), ("return", "x")]
    side = Side({"x": (size, 0)}, {"add": block})
    return House(counter(size), [Atomic("c", cell(size))], only(counter(size), [["add"]] * sides), [side] * sides)


def locked(sides=2):
    """Counts by a cell under a lock, and keeps its kind."""
    block = [("call", "l", "f", "test", 0), ("while", "l", 1, [("call", "l", "f", "test", 0)]),
             ("call", "x", "c", "get", 0), ("call", "", "c", "set", ("plus", "x", 1)), ("call", "", "f", "clear", 0),
             ("return", "x")]
    side = Side({"x": (2, 0), "l": (2, 0)}, {"add": block})
    things = [Atomic("c", cell(2)), Atomic("f", flag())]
    return House(counter(2), things, only(counter(2), [["add"]] * sides), [side] * sides)


def weak_cell(word, size=2, gets=1):
    """Side 0 sets a cell, the others get it; each call is one of a weak cell, or several ones."""
    get = [("call", "r", "w", "get", 0)] * gets + [("return", "r")]
    put = [("call", "", "w", "set", "arg")]
    sides = [Side({"r": (size, 0)}, {"get": get, "set": put}), Side({"r": (size, 0)}, {"get": get})]
    return House(cell(size), [Weak("w", word, size)], only(cell(size), [["set"], ["get"]]), sides)


def any_answers():
    """A kind that may tell anything; every house without wrong steps keeps it."""
    rows = [[[(result, 0) for result in range(3)]] * 2]
    return Kind(1, 0, {"a": (2, 3, rows), "b": (2, 3, rows)})


def stuck():
    """A house whose one side can only take a wrong step behind its call."""
    kind = Kind(1, 0, {"go": (1, 1, [[[]]])})
    return plain(kind, free(kind, 1))


def some_houses():
    gone = Kind(2, 0, {"go": (1, 1, [[[(0, 1)]], [[]]]), "no": (1, 2, [[[(1, 1)]], [[(0, 0)]]])})
    return [counting(), counting(1), counting(2, 3), locked(1), locked(), weak_cell("regular"), weak_cell("safe"),
            weak_cell("regular", 3), weak_cell("safe", 3), weak_cell("safe", 2, 2), stuck(),
            plain(cell(2), free(cell(2), 1)), plain(flag(), only(flag(), [["test"], ["clear"]])),
            plain(gone, free(gone, 1)), plain(gone, only(gone, [["go"], ["no"]])),
            plain(choose(2), free(choose(2), 2)), plain(swap(2), free(swap(2), 2)), plain(lossy(), free(lossy(), 1)),
            plain(queue(1, 2), free(queue(1, 2), 2)), plain(counter(2), Contract(counter(2), [
                {(0, "add"): (1, 2), (1, "get"): (0, 0)}, {(0, "get"): (0, 1)}])),
            House(cell(2), [], free(cell(2), 2), [Side({}, {"get": [], "set": []})] * 2)]


def drawn_houses(rnd, many):
    """Houses of all sorts that have not too many standings."""
    found = []
    while len(found) < many:
        draw = rnd.random()
        if draw < 0.35:
            house = random_house(rnd, 2, 2)
        elif draw < 0.6:
            house = random_house(rnd, 2, 2, any_answers())
        else:
            kind = random_kind(rnd, 3, 2, 2, 2, least_answers=rnd.choice((0, 1, 1)))
            house = plain(kind, random_contract(rnd, kind, rnd.randint(1, 2), rnd.randint(1, 3), let=0.6))
            if rnd.random() < 0.4:
                other = random_kind(rnd, 3, 2, 2, 2)
                if {name: other.arguments(name) for name in other.names()} == {
                        name: kind.arguments(name) for name in kind.names()}:
                    house = house.with_things([Atomic("x", other)])
        try:
            sizes(house, limit=GREAT)
        except TooMany:
            continue
        found.append(house)
    return found


def slow_search(house):
    """All standings, and the first of the shortest runs that break, or None, by the words of section 14."""
    first = (initial(house), first_lot(house.kind, len(house.sides)))
    seen, level, broken = {first}, [([], first)], None
    while level:
        ends, further = [], []
        for steps, (state, before) in level:
            ends += [steps + [(side, "wrong", "", -1)] for side in wrongs(house, state)]
            for step, behind in moves(house, state):
                event = event_of(step)
                after = lot_behind(house.kind, len(house.sides), before, event) if event else before
                if after == ():
                    ends.append(steps + [step])
                elif (behind, after) not in seen:
                    seen.add((behind, after))
                    further.append((steps + [step], (behind, after)))
        if ends and broken is None:
            broken = min(ends)
        level = sorted(further, key=lambda pair: pair[0])
    return sorted(seen), broken


def slow_states(house):
    """All states that come in runs."""
    seen = {initial(house)}
    todo = list(seen)
    while todo:
        for _, state in moves(house, todo.pop()):
            if state not in seen:
                seen.add(state)
                todo.append(state)
    return seen


def changed_house(rnd, house):
    """A house of the same kind and sides: with another thing, contract, statement or program."""
    sides = len(house.sides)
    draw = rnd.random()
    if draw < 0.2:
        return plain(house.kind, rnd.choice((house.contract, random_contract(rnd, house.kind, sides, 2))))
    if draw < 0.4:
        try:
            return house.with_contract(random_contract(rnd, house.kind, sides, rnd.randint(1, 3)))
        except BadHouse:
            return house
    side = rnd.randrange(sides)
    program = house.sides[side]
    if draw < 0.6 and house.things:
        return house.with_things([other_thing(rnd, thing) for thing in house.things])
    method = rnd.choice(program.names())
    if draw < 0.8 and program.block(method):
        try:
            many = len(list(program.walk(method)))
            return house.with_side(side, program.without(method, rnd.randrange(many)))
        except BadSide:
            return house
    store = {name: (size, start) for name, size, start in program.store}
    block = random_right_block(rnd, store, calls_of_side(house.things, side))
    return house.with_side(side, program.with_block(method, block))


def other_thing(rnd, thing):
    """A thing of the same name and methods that behaves otherwise, or the same thing."""
    if isinstance(thing, Weak):
        return rnd.choice((thing, Atomic(thing.name, thing.kind), Weak(
            thing.name, rnd.choice(("safe", "regular")), thing.size, rnd.randrange(thing.size), owner=thing.owner)))
    return rnd.choice((thing, Atomic(thing.name, changed_kind(rnd, thing.kind))))


def limits_told(test, function, many, answer):
    """The function(limit) counts so many things: it answers for just this limit, and raises for one less."""
    test.assertEqual(function(many), answer)
    test.assertEqual(function(4000), answer)
    for limit in {1, many // 2, many - 1} - {0, many}:
        with test.assertRaises(TooMany) as caught:
            function(limit)
        test.assertEqual(caught.exception.limit, limit)


def bad_limits(test, function):
    """The function(limit) raises BadLimit for all values that are no limits."""
    for limit in not_between(1, 4000):
        with test.assertRaises(BadLimit):
            function(limit)
