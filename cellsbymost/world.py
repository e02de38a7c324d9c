"""Cells kept by most: the nodes, the clients and the net between them as one world, and the calls on it."""

from cellsbymost.parts import ASKS, CELLS, KEEP, KEPT, TELLS, Client, Node, Operation, best_of

CLIENTS = 4
MOST_NODES = 5
GREATEST_WEIGHT = 9
GREATEST_VALUE = 99
ROOM = 100

# What came of a letter.
NO_USE = 0
ANSWERED = 1
COUNTED = 2
GOES_ON = 3
ENDED = 4

# The refusals.
NO_SUCH = -1
NOT_NOW = -2
NO_WORLD = -9

# The calls.
BEGIN = 0
READ = 1
WRITE = 2
TAKE = 3
AGAIN = 4
LOSE = 5
NUDGE = 6
QUIT = 7
STOP = 8
START = 9
LETTERS = 10
NODE = 11
CLIENT = 12
# 13 is record, the one that is left where it is none of these.

# How many numbers stand behind a call's own. Begin is not among them: its row tells its length itself.
NUMBERS_BEHIND = {1: 2, 2: 3, 3: 1, 4: 1, 5: 1, 6: 1, 7: 1, 8: 1, 9: 1, 10: 0, 11: 1, 12: 1, 13: 0}


class World:
    def __init__(self, weights):
        self.nodes = [Node(weight) for weight in weights]
        self.clients = [Client() for client in range(CLIENTS)]
        self.row = []
        self.record = []
        self.events = 0

    def is_most(self, numbers):
        part = sum([self.nodes[number].weight for number in numbers])
        whole = sum([node.weight for node in self.nodes])
        # Twice the part, as half of an odd weight is no whole number.
        return 2 * part > whole

    def next_event(self):
        event = self.events
        self.events = event + 1
        return event

    def send(self, letter):
        if len(self.row) < ROOM:
            self.row.append(letter)

    # Those that find no room are counted too: they were sent, and lost on the way.
    def send_to_missing(self, operation):
        counted = operation.counted_nodes()
        missing = [number for number in range(len(self.nodes)) if number not in counted]
        for number in missing:
            self.send(operation.letter_to(number))
        return len(missing)

    def begin_operation(self, number, cell, writes, value):
        if number >= CLIENTS or cell >= CELLS or value > GREATEST_VALUE:
            return [NO_SUCH]
        client = self.clients[number]
        if not client.is_free():
            return [NOT_NOW]
        client.begun = client.begun + 1
        operation = Operation(number, client.begun, cell, writes, value, self.next_event())
        client.under_way = operation
        self.record.append(operation)
        self.send_to_missing(operation)
        return [operation.number]

    def read(self, client, cell):
        return self.begin_operation(client, cell, False, 0)

    def write(self, client, cell, value):
        return self.begin_operation(client, cell, True, value)

    def take(self, place):
        if place >= len(self.row):
            return [NO_SUCH]
        # Out first, so that an answer finds its room even in a full row.
        return self.hand_over(self.row.pop(place))

    def again(self, place):
        if place >= len(self.row):
            return [NO_SUCH]
        return self.hand_over(self.row[place])

    def lose(self, place):
        if place >= len(self.row):
            return [NO_SUCH]
        self.row.pop(place)
        return [0]

    def nudge(self, number):
        if number >= CLIENTS:
            return [NO_SUCH]
        client = self.clients[number]
        if not client.is_at_work():
            return [NOT_NOW]
        return [self.send_to_missing(client.under_way)]

    def leave(self, number):
        if number >= CLIENTS:
            return [NO_SUCH]
        client = self.clients[number]
        if client.gone:
            return [NOT_NOW]
        client.gone = True
        return [0]

    def stop_node(self, number):
        return self.set_running(number, False)

    def start_node(self, number):
        return self.set_running(number, True)

    def set_running(self, number, runs):
        if number >= len(self.nodes):
            return [NO_SUCH]
        node = self.nodes[number]
        if node.runs == runs:
            return [NOT_NOW]
        node.runs = runs
        return [0]

    def tell_letters(self):
        numbers = [len(self.row)]
        for letter in self.row:
            numbers.extend(letter.in_numbers())
        return numbers

    def tell_node(self, number):
        if number >= len(self.nodes):
            return [NO_SUCH]
        return self.nodes[number].in_numbers()

    def tell_client(self, number):
        if number >= CLIENTS:
            return [NO_SUCH]
        return self.clients[number].in_numbers()

    def tell_record(self):
        numbers = [len(self.record)]
        for operation in self.record:
            numbers.extend(operation.record_in_numbers())
        return numbers

    def hand_over(self, letter):
        if letter.kind == ASKS or letter.kind == KEEP:
            return self.hand_to_node(letter)
        return self.hand_to_client(letter)

    def hand_to_node(self, letter):
        node = self.nodes[letter.to]
        if not node.runs:
            return [NO_USE]
        self.send(node.answer_to(letter))
        return [ANSWERED]

    def hand_to_client(self, letter):
        client = self.clients[letter.to]
        if not client.is_at_work():
            return [NO_USE]
        operation = client.under_way
        awaited = TELLS if operation.wanted is None else KEPT
        if letter.operation != operation.number or letter.kind != awaited:
            return [NO_USE]
        if letter.sender in operation.counted_nodes():
            return [NO_USE]
        if awaited == TELLS:
            return self.hear(operation, letter)
        return self.count_keeper(operation, letter)

    def hear(self, operation, letter):
        operation.heard.append(letter.sender)
        operation.told.append(letter.enclosed)
        if not self.is_most(operation.heard):
            return [COUNTED]
        best = best_of(operation.told)
        if operation.writes:
            return self.have_kept(operation, (best[0] + 1, operation.client, operation.value))
        operation.keepers = operation.nodes_that_told(best)
        if self.is_most(operation.keepers):
            return self.end(operation, best[2])
        return self.have_kept(operation, best)

    def have_kept(self, operation, copy):
        operation.wanted = copy
        self.send_to_missing(operation)
        return [GOES_ON]

    def count_keeper(self, operation, letter):
        operation.keepers.append(letter.sender)
        if not self.is_most(operation.keepers):
            return [COUNTED]
        if operation.writes:
            return self.end(operation, 0)
        return self.end(operation, operation.wanted[2])

    def end(self, operation, result):
        operation.ended = self.next_event()
        operation.result = result
        client = self.clients[operation.client]
        client.under_way = None
        return [ENDED, result]


def can_begin(weights):
    if len(weights) == 0 or len(weights) > MOST_NODES:
        return False
    return max(weights) <= GREATEST_WEIGHT and max(weights) > 0


def call_length(calls, start):
    if calls[start] == BEGIN:
        return 2 + calls[start + 1]
    return 1 + NUMBERS_BEHIND[calls[start]]


def answer_of(world, call):
    if call[0] == READ:
        return world.read(call[1], call[2])
    if call[0] == WRITE:
        return world.write(call[1], call[2], call[3])
    if call[0] == TAKE:
        return world.take(call[1])
    if call[0] == AGAIN:
        return world.again(call[1])
    if call[0] == LOSE:
        return world.lose(call[1])
    if call[0] == NUDGE:
        return world.nudge(call[1])
    if call[0] == QUIT:
        return world.leave(call[1])
    if call[0] == STOP:
        return world.stop_node(call[1])
    if call[0] == START:
        return world.start_node(call[1])
    if call[0] == LETTERS:
        return world.tell_letters()
    if call[0] == NODE:
        return world.tell_node(call[1])
    if call[0] == CLIENT:
        return world.tell_client(call[1])
    return world.tell_record()


def answers(calls):
    given = []
    world = None
    start = 0
    while start < len(calls):
        call = calls[start:start + call_length(calls, start)]
        start = start + len(call)
        if call[0] != BEGIN:
            answer = [NO_WORLD] if world is None else answer_of(world, call)
        elif can_begin(call[2:]):
            world = World(call[2:])
            answer = [0]
        else:
            answer = [NO_SUCH]
        given.append(len(answer))
        given.extend(answer)
    return given
