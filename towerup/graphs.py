"""Graphs: for each number, from 0 on, the row of the numbers to which an edge leads."""


def way_to(came, end):
    """The labels on the way to an end; came has for each place None or (the place ahead of it, the label between)."""
    way = []
    while came[end] is not None:
        end, label = came[end]
        way.append(label)
    return way[::-1]


def groups_of(edges):
    """All numbers in groups that lead to each other; each group stands behind all to which it leads."""
    heads = [[] for _ in edges]
    for number, row in enumerate(edges):
        for behind in row:
            heads[behind].append(number)
    met = {}
    groups = []
    # The number that is left last leads to all of its group, and only its group leads back to it from what is not met.
    for number in _as_left(edges)[::-1]:
        if number not in met:
            groups.append(_spread(heads, number, met))
    return groups[::-1]


def _spread(edges, first, met):
    """The numbers that were not met yet and to which this one leads; then they are met."""
    met[first] = True
    found = [first]
    at = 0
    while at < len(found):
        number = found[at]
        for behind in edges[number]:
            if behind not in met:
                met[behind] = True
                found.append(behind)
        at += 1
    return found


def _as_left(edges):
    """All numbers in the order in which a walk leaves them that goes as deep as it can."""
    met = {}
    left = []
    for first in range(len(edges)):
        todo = [(first, 0)]
        while todo:
            number, at = todo.pop()
            if at == 0 and number in met:
                continue
            met[number] = True
            if at == len(edges[number]):
                left.append(number)
            else:
                todo.append((number, at + 1))
                todo.append((edges[number][at], 0))
    return left
