"""Calls written by name, and their answers call by call."""

from cellsbymost.world import answers


def begin(*weights):
    return [0, len(weights), *weights]


def read(client, cell):
    return [1, client, cell]


def write(client, cell, value):
    return [2, client, cell, value]


def take(letter):
    return [3, letter]


def again(letter):
    return [4, letter]


def lose(letter):
    return [5, letter]


def nudge(client):
    return [6, client]


def quit(client):
    return [7, client]


def stop(node):
    return [8, node]


def start(node):
    return [9, node]


# The calls that only tell are called see_.., as tests have letters, nodes and clients of their own.
def see_letters():
    return [10]


def see_node(node):
    return [11, node]


def see_client(client):
    return [12, client]


def see_record():
    return [13]


def line_of(calls):
    return [number for call in calls for number in call]


def ask(*calls):
    """A list of numbers for each call."""
    flat = answers(line_of(calls))
    told = []
    start = 0
    while start < len(flat):
        end = start + 1 + flat[start]
        told.append(flat[start + 1:end])
        start = end
    return told


def last(*calls):
    return ask(*calls)[-1]


def in_groups(answer, size):
    """What is told as how many and so many numbers of each: a tuple for each."""
    groups = [tuple(answer[first:first + size]) for first in range(1, len(answer), size)]
    if [len(group) for group in groups] != [size] * answer[0]:
        raise AssertionError(f"not as many as told: {answer}")
    return groups


def letters_after(*calls):
    return in_groups(last(*calls, see_letters()), 8)


def record_after(*calls):
    return in_groups(last(*calls, see_record()), 7)


def seen_after(*calls):
    """All that can be told of the world after these calls: the letters, the record, five nodes, four clients."""
    nodes = [see_node(node) for node in range(5)]
    clients = [see_client(client) for client in range(4)]
    return ask(*calls, see_letters(), see_record(), *nodes, *clients)[len(calls):]


def row_length(*calls):
    """How many letters lie in the row after these calls: those that can be lost."""
    return [last(*calls, lose(letter)) for letter in range(201)].count([0])


def written_to(weights, nodes, client, cell, value):
    """A world, and a write in it that the nodes (each counted, the last making most) answered and keep.

    The row is empty at its end, so that what follows begins at letter 0.
    """
    calls = [begin(*weights)]
    return calls + write_on(len(weights), nodes, client, cell, value)


def write_on(count, nodes, client, cell, value):
    """The same in a world of so many nodes that is there already, and whose row is empty."""
    return [write(client, cell, value)] + round_trips(count, nodes) + round_trips(count, nodes)


def round_trips(count, nodes):
    """Letters to all nodes lie in the row: those to these nodes come, with their answers, the others get lost.

    Letters are taken from the row as far as they are needed; what goes on sends its own behind them.
    """
    left = list(range(count))
    calls = []
    for node in left.copy():
        if node not in nodes:
            calls.append(lose(left.index(node)))
            left.remove(node)
    for node in nodes:
        calls.append(take(left.index(node)))
        left.remove(node)
        calls.append(take(len(left)))
    return calls
