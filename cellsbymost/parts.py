"""What a world is made of: copies and their stamps, letters, nodes, operations, clients.

A copy is a tuple of a number, a client (both together are its stamp) and a value.
"""

CELLS = 3
ZERO_COPY = (0, 0, 0)

# The kinds of letters.
ASKS = 0
TELLS = 1
KEEP = 2
KEPT = 3


# Python's own truth values are never given back, though they count as whole numbers.
def one_or_zero(truth):
    return 1 if truth else 0


def has_greater_stamp(copy, other):
    if copy[0] == other[0]:
        return copy[1] > other[1]
    return copy[0] > other[0]


def has_same_stamp(copy, other):
    return copy[0] == other[0] and copy[1] == other[1]


def best_of(copies):
    best = copies[0]
    for copy in copies:
        if has_greater_stamp(copy, best):
            best = copy
    return best


class Letter:
    def __init__(self, kind, to, sender, operation, cell, enclosed):
        self.kind = kind
        self.to = to
        self.sender = sender
        self.operation = operation
        self.cell = cell
        self.enclosed = enclosed

    def in_numbers(self):
        return [self.kind, self.to, self.sender, self.operation, self.cell] + list(self.enclosed)


def reply_to(letter, kind, enclosed):
    return Letter(kind, letter.sender, letter.to, letter.operation, letter.cell, enclosed)


class Node:
    def __init__(self, weight):
        self.weight = weight
        self.runs = True
        self.copies = [ZERO_COPY for cell in range(CELLS)]

    def answer_to(self, letter):
        if letter.kind == ASKS:
            return reply_to(letter, TELLS, self.copies[letter.cell])
        if has_greater_stamp(letter.enclosed, self.copies[letter.cell]):
            self.copies[letter.cell] = letter.enclosed
        return reply_to(letter, KEPT, ZERO_COPY)

    def in_numbers(self):
        numbers = [one_or_zero(self.runs)]
        for copy in self.copies:
            numbers.extend(copy)
        return numbers


class Operation:
    def __init__(self, client, number, cell, writes, value, began):
        self.client = client
        self.number = number
        self.cell = cell
        self.writes = writes
        self.value = value
        self.began = began
        # The record tells -1 for both of what has not ended.
        self.ended = -1
        self.result = -1
        # The nodes heard of, and beside each, in the same place, the copy it told.
        self.heard = []
        self.told = []
        # The copy to be kept: None for as long as the operation still asks.
        self.wanted = None
        self.keepers = []

    def counted_nodes(self):
        if self.wanted is None:
            return self.heard
        return self.keepers

    def nodes_that_told(self, copy):
        return [node for node, told in zip(self.heard, self.told) if has_same_stamp(told, copy)]

    def letter_to(self, node):
        if self.wanted is None:
            return Letter(ASKS, node, self.client, self.number, self.cell, ZERO_COPY)
        return Letter(KEEP, node, self.client, self.number, self.cell, self.wanted)

    def progress_in_numbers(self):
        numbers = [self.cell, one_or_zero(self.writes)]
        if self.wanted is None:
            return numbers + [0] + self.heard
        return numbers + [1] + list(self.wanted) + self.keepers

    def record_in_numbers(self):
        begun = [self.client, self.cell, one_or_zero(self.writes), self.value, self.began]
        return begun + [self.ended, self.result]


class Client:
    def __init__(self):
        self.begun = 0
        self.gone = False
        self.under_way = None

    def is_at_work(self):
        return self.under_way is not None and not self.gone

    def is_free(self):
        return self.under_way is None and not self.gone

    # What it had under way is still told where it's gone: it never ends.
    def in_numbers(self):
        numbers = [self.begun, one_or_zero(self.gone)]
        if self.under_way is None:
            return numbers
        return numbers + self.under_way.progress_in_numbers()
