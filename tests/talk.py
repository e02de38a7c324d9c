"""Calls written by name, and their answers call by call."""

from cellsbymost.world import answers


def begin(*weights):
    return [0, len(weights), *weights]


def read(client, cell):
    return [1, client, cell]


def write(client, cell, value):
    return [2, client, cell, value]


def take(letter):
    return [3, letter]


def again(letter):
    return [4, letter]


def lose(letter):
    return [5, letter]


def nudge(client):
    return [6, client]


def line_of(calls):
    return [number for call in calls for number in call]


def ask(*calls):
    """A list of numbers for each call."""
    flat = answers(line_of(calls))
    told = []
    start = 0
    while start < len(flat):
        end = start + 1 + flat[start]
        told.append(flat[start + 1:end])
        start = end
    return told


def last(*calls):
    return ask(*calls)[-1]


def row_length(*calls):
    """How many letters lie in the row after these calls: those that can be lost."""
    return [last(*calls, lose(letter)) for letter in range(201)].count([0])


def written_to(weights, nodes, client, cell, value):
    """A world, and a write in it that the nodes (each counted, the last making most) answered and keep.

    The row is empty at its end, so that what follows begins at letter 0.
    """
    calls = [begin(*weights)]
    return calls + write_on(len(weights), nodes, client, cell, value)


def write_on(count, nodes, client, cell, value):
    """The same in a world of so many nodes that is there already, and whose row is empty."""
    return [write(client, cell, value)] + round_trips(count, nodes) + round_trips(count, nodes)


def round_trips(count, nodes):
    """Letters to all nodes lie in the row: those to these nodes come, with their answers, the others get lost.

    Letters are taken from the row as far as they are needed; what goes on sends its own behind them.
    """
    left = list(range(count))
    calls = []
    for node in left.copy():
        if node not in nodes:
            calls.append(lose(left.index(node)))
            left.remove(node)
    for node in nodes:
        calls.append(take(left.index(node)))
        left.remove(node)
        calls.append(take(len(left)))
    return calls
