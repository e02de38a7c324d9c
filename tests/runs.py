"""Lines of calls that are drawn by lot, the same ones each time: what may come in any order comes in many orders."""

import random

from talk import again, begin, last, lose, nudge, quit, read, see_letters, start, stop, take, write


def drawn_weights(lot):
    # Often nodes of equal weight, of which no one is most by itself.
    if lot.randrange(2) == 0:
        return [1] * lot.randrange(2, 6)
    weights = [lot.randrange(4) for count in range(lot.randrange(1, 6))]
    # Not all may be 0.
    weights[lot.randrange(len(weights))] += 1
    return weights


def drawn_place(lot, lying):
    """One of so many letters, now and then one that isn't there."""
    if lot.randrange(30) == 0 or lying == 0:
        return lying
    if lot.randrange(4) == 0:
        return lot.randrange(lying)
    # Mostly a new one, so that much ends while older letters are still on their way.
    return lying - 1 - lot.randrange(min(lying, 4))


def drawn_call(lot, value, lying):
    client = lot.randrange(4)
    cell = lot.randrange(8) // 7
    place = drawn_place(lot, lying)
    kind = lot.randrange(100)
    if kind < 14 or lying == 0 and kind < 60:
        return read(client, cell)
    if kind < 20 or lying == 0:
        return write(client, cell, value)
    if kind < 80:
        return take(place)
    if kind < 86:
        return again(place)
    if kind < 91:
        return lose(place)
    if kind < 95:
        return nudge(client)
    if kind < 96:
        return quit(client)
    if kind < 97:
        return stop(lot.randrange(5))
    return start(lot.randrange(5))


def drawn_line(number, length):
    """A line of so many calls; each write has a value of its own."""
    lot = random.Random(number)
    calls = [begin(*drawn_weights(lot))]
    for value in range(1, length):
        calls.append(drawn_call(lot, value, last(*calls, see_letters())[0]))
    return calls
