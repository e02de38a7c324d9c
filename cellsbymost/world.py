"""Cells kept by most: the nodes, the clients, the net between them, and the calls on them.

A copy is a tuple of a number, a client (both together are its stamp) and a value.
"""

CLIENTS = 4
CELLS = 3
MOST_NODES = 5
GREATEST_WEIGHT = 9
GREATEST_VALUE = 99
ROOM = 100
ZERO_COPY = (0, 0, 0)

# The kinds of letters.
ASKS = 0
TELLS = 1
KEEP = 2
KEPT = 3

# What came of a letter.
NO_USE = 0
ANSWERED = 1
COUNTED = 2
GOES_ON = 3
ENDED = 4

# The refusals.
NO_SUCH = -1
NOT_NOW = -2
NO_WORLD = -9

# The calls.
BEGIN = 0
READ = 1
WRITE = 2
TAKE = 3
AGAIN = 4
LOSE = 5
# 6 is nudge, the one that is left where it is none of these.

# How many numbers stand behind a call's own. Begin is not among them: its row tells its length itself.
NUMBERS_BEHIND = {1: 2, 2: 3, 3: 1, 4: 1, 5: 1, 6: 1}


def has_greater_stamp(copy, other):
    if copy[0] == other[0]:
        return copy[1] > other[1]
    return copy[0] > other[0]


def has_same_stamp(copy, other):
    return copy[0] == other[0] and copy[1] == other[1]


def best_of(copies):
    best = copies[0]
    for copy in copies:
        if has_greater_stamp(copy, best):
            best = copy
    return best


class Letter:
    def __init__(self, kind, to, sender, operation, cell, enclosed):
        self.kind = kind
        self.to = to
        self.sender = sender
        self.operation = operation
        self.cell = cell
        self.enclosed = enclosed


def reply_to(letter, kind, enclosed):
    return Letter(kind, letter.sender, letter.to, letter.operation, letter.cell, enclosed)


class Node:
    def __init__(self, weight):
        self.weight = weight
        self.runs = True
        self.copies = [ZERO_COPY for cell in range(CELLS)]

    def answer_to(self, letter):
        if letter.kind == ASKS:
            return reply_to(letter, TELLS, self.copies[letter.cell])
        if has_greater_stamp(letter.enclosed, self.copies[letter.cell]):
            self.copies[letter.cell] = letter.enclosed
        return reply_to(letter, KEPT, ZERO_COPY)


class Operation:
    def __init__(self, client, number, cell, writes, value, began):
        self.client = client
        self.number = number
        self.cell = cell
        self.writes = writes
        self.value = value
        self.began = began
        # The record tells -1 for both of what has not ended.
        self.ended = -1
        self.result = -1
        # The nodes heard of, and beside each, in the same place, the copy it told.
        self.heard = []
        self.told = []
        # The copy to be kept: None for as long as the operation still asks.
        self.wanted = None
        self.keepers = []

    def counted_nodes(self):
        if self.wanted is None:
            return self.heard
        return self.keepers

    def nodes_that_told(self, copy):
        return [node for node, told in zip(self.heard, self.told) if has_same_stamp(told, copy)]

    def letter_to(self, node):
        if self.wanted is None:
            return Letter(ASKS, node, self.client, self.number, self.cell, ZERO_COPY)
        return Letter(KEEP, node, self.client, self.number, self.cell, self.wanted)


class Client:
    def __init__(self):
        self.begun = 0
        self.gone = False
        self.under_way = None

    def is_at_work(self):
        return self.under_way is not None and not self.gone

    def is_free(self):
        return self.under_way is None and not self.gone


class World:
    def __init__(self, weights):
        self.nodes = [Node(weight) for weight in weights]
        self.clients = [Client() for client in range(CLIENTS)]
        self.row = []
        self.record = []
        self.events = 0

    def is_most(self, numbers):
        part = sum([self.nodes[number].weight for number in numbers])
        whole = sum([node.weight for node in self.nodes])
        # Twice the part, as half of an odd weight is no whole number.
        return 2 * part > whole

    def next_event(self):
        event = self.events
        self.events = event + 1
        return event

    def send(self, letter):
        if len(self.row) < ROOM:
            self.row.append(letter)

    # Those that find no room are counted too: they were sent, and lost on the way.
    def send_to_missing(self, operation):
        counted = operation.counted_nodes()
        missing = [number for number in range(len(self.nodes)) if number not in counted]
        for number in missing:
            self.send(operation.letter_to(number))
        return len(missing)

    def begin_operation(self, number, cell, writes, value):
        if number >= CLIENTS or cell >= CELLS or value > GREATEST_VALUE:
            return [NO_SUCH]
        client = self.clients[number]
        if not client.is_free():
            return [NOT_NOW]
        client.begun = client.begun + 1
        operation = Operation(number, client.begun, cell, writes, value, self.next_event())
        client.under_way = operation
        self.record.append(operation)
        self.send_to_missing(operation)
        return [operation.number]

    def read(self, client, cell):
        return self.begin_operation(client, cell, False, 0)

    def write(self, client, cell, value):
        return self.begin_operation(client, cell, True, value)

    def take(self, place):
        if place >= len(self.row):
            return [NO_SUCH]
        # Out first, so that an answer finds its room even in a full row.
        return self.hand_over(self.row.pop(place))

    def again(self, place):
        if place >= len(self.row):
            return [NO_SUCH]
        return self.hand_over(self.row[place])

    def lose(self, place):
        if place >= len(self.row):
            return [NO_SUCH]
        self.row.pop(place)
        return [0]

    def nudge(self, number):
        if number >= CLIENTS:
            return [NO_SUCH]
        client = self.clients[number]
        if not client.is_at_work():
            return [NOT_NOW]
        return [self.send_to_missing(client.under_way)]

    def hand_over(self, letter):
        if letter.kind == ASKS or letter.kind == KEEP:
            return self.hand_to_node(letter)
        return self.hand_to_client(letter)

    def hand_to_node(self, letter):
        node = self.nodes[letter.to]
        if not node.runs:
            return [NO_USE]
        self.send(node.answer_to(letter))
        return [ANSWERED]

    def hand_to_client(self, letter):
        client = self.clients[letter.to]
        if not client.is_at_work():
            return [NO_USE]
        operation = client.under_way
        awaited = TELLS if operation.wanted is None else KEPT
        if letter.operation != operation.number or letter.kind != awaited:
            return [NO_USE]
        if letter.sender in operation.counted_nodes():
            return [NO_USE]
        if awaited == TELLS:
            return self.hear(operation, letter)
        return self.count_keeper(operation, letter)

    def hear(self, operation, letter):
        operation.heard.append(letter.sender)
        operation.told.append(letter.enclosed)
        if not self.is_most(operation.heard):
            return [COUNTED]
        best = best_of(operation.told)
        if operation.writes:
            return self.have_kept(operation, (best[0] + 1, operation.client, operation.value))
        operation.keepers = operation.nodes_that_told(best)
        if self.is_most(operation.keepers):
            return self.end(operation, best[2])
        return self.have_kept(operation, best)

    def have_kept(self, operation, copy):
        operation.wanted = copy
        self.send_to_missing(operation)
        return [GOES_ON]

    def count_keeper(self, operation, letter):
        operation.keepers.append(letter.sender)
        if not self.is_most(operation.keepers):
            return [COUNTED]
        if operation.writes:
            return self.end(operation, 0)
        return self.end(operation, operation.wanted[2])

    def end(self, operation, result):
        operation.ended = self.next_event()
        operation.result = result
        client = self.clients[operation.client]
        client.under_way = None
        return [ENDED, result]


def can_begin(weights):
    if len(weights) == 0 or len(weights) > MOST_NODES:
        return False
    return max(weights) <= GREATEST_WEIGHT and max(weights) > 0


def call_length(calls, start):
    if calls[start] == BEGIN:
        return 2 + calls[start + 1]
    return 1 + NUMBERS_BEHIND[calls[start]]


def answer_of(world, call):
    if call[0] == READ:
        return world.read(call[1], call[2])
    if call[0] == WRITE:
        return world.write(call[1], call[2], call[3])
    if call[0] == TAKE:
        return world.take(call[1])
    if call[0] == AGAIN:
        return world.again(call[1])
    if call[0] == LOSE:
        return world.lose(call[1])
    return world.nudge(call[1])


def answers(calls):
    given = []
    world = None
    start = 0
    while start < len(calls):
        call = calls[start:start + call_length(calls, start)]
        start = start + len(call)
        if call[0] != BEGIN:
            answer = [NO_WORLD] if world is None else answer_of(world, call)
        elif can_begin(call[2:]):
            world = World(call[2:])
            answer = [0]
        else:
            answer = [NO_SUCH]
        given.append(len(answer))
        given.extend(answer)
    return given
