"""Programs: what each side does when the methods of a made object are called."""

from towerup.basics import as_tuples, is_below, is_between, is_name, is_row
from towerup.blocks import form_fault, many_places, placed, way_fault, without_place
from towerup.errors import BadSide, NoMethod, NoPlace
from towerup.flows import flow_of
from towerup.kinds import MOST_METHODS
from towerup.shelf import GREATEST_SIZE, LEAST_SIZE

MOST_VARIABLES = 4


class Side:
    """The program of one side: its variables, and a block of statements for each method."""

    def __init__(self, store, methods):
        if not _is_store(store):
            raise BadSide("", -1, "store")
        if not _are_blocks(methods):
            raise BadSide("", -1, "methods")
        for name in sorted(methods):
            fault = form_fault(store, methods[name])
            if fault is not None:
                raise BadSide(name, fault[0], fault[1])
        for name in sorted(methods):
            fault = way_fault(methods[name])
            if fault is not None:
                raise BadSide(name, fault[0], fault[1])
        self.store = tuple([(name, store[name][0], store[name][1]) for name in sorted(store)])
        self._blocks = {name: as_tuples(methods[name]) for name in methods}
        self._flows = {name: flow_of(self._blocks[name]) for name in self._blocks}
        self._places = {row[0]: (at, row[1]) for at, row in enumerate(self.store)}

    def __eq__(self, other):
        return isinstance(other, Side) and self.store == other.store and self._blocks == other._blocks

    def names(self):
        """The ascending list of the names of the methods."""
        return sorted(self._blocks)

    def block(self, method):
        """The block of the method, as tuples."""
        if not isinstance(method, str) or method not in self._blocks:
            raise NoMethod(method)
        return self._blocks[method]

    def walk(self, method):
        """For each statement, in the order of places: (place, depth, statement)."""
        block = self.block(method)
        for place, depth, _, statement in placed(block):
            yield place, depth, statement

    def flow(self, method):
        """The rows of the module flows for a method that is there."""
        return self._flows[method]

    def variable(self, name):
        """The place in the store, and the size, of a variable that is there."""
        return self._places[name]

    def with_block(self, method, block):
        """The same side with this block for a method, which may be a new one."""
        if not is_name(method):
            raise BadSide("", -1, "methods")
        blocks = {name: self._blocks[name] for name in self._blocks}
        blocks[method] = block
        return Side(self._variables(), blocks)

    def without(self, method, place):
        """The same side without one statement and what stands in its blocks."""
        block = self.block(method)
        if not is_below(place, many_places(block)):
            raise NoPlace(place)
        return self.with_block(method, without_place(block, place))

    def _variables(self):
        return {name: (size, start) for name, size, start in self.store}


def _is_store(store):
    if not isinstance(store, dict) or len(store) > MOST_VARIABLES:
        return False
    return all([is_name(name) and name != "arg" and _is_variable_row(row) for name, row in store.items()])


def _is_variable_row(row):
    return is_row(row, 2, 2) and is_between(row[0], LEAST_SIZE, GREATEST_SIZE) and is_below(row[1], row[0])


def _are_blocks(methods):
    if not isinstance(methods, dict) or not 1 <= len(methods) <= MOST_METHODS:
        return False
    return all([is_name(name) and isinstance(block, (list, tuple)) for name, block in methods.items()])
