"""A world: its processes, the wires between its nodes, and what is on its way."""

from partednodes.process import Process
from partednodes.signals import AS_IT_SHOULD, CONNECTION_LOST, ENDED, GONE, UNWATCH, comes_back

NO_CONNECTION = 0
WITHIN_A_NODE = 0


# A wire is one thing for both its ends, so both must find it under the same key.
def wire_between(a, b):
    return (min(a, b), max(a, b))


class World:

    def __init__(self):
        self.processes = []
        # In the order in which they were sent: from, to, the signal, its connection.
        self.air = []
        self.last_number = 0
        # Each node has a connection of its own to each other: one side may lose it before the other.
        self.connections = {(1, 2): 1, (2, 1): 1, (1, 3): 2, (3, 1): 2, (2, 3): 3, (3, 2): 3}
        self.last_connection = 3
        # In the order in which the wires are told.
        self.broken = {(1, 2): False, (1, 3): False, (2, 3): False}

    def has_process(self, p):
        return 1 <= p <= len(self.processes)

    def process(self, p):
        return self.processes[p - 1]

    def new_process(self, node):
        self.processes.append(Process(node))
        return len(self.processes)

    # Cuts and watches draw from this one row.
    def new_number(self):
        self.last_number += 1
        return self.last_number

    def new_connection(self):
        self.last_connection += 1
        return self.last_connection

    def send(self, p, q, signal):
        here = self.process(p).node
        there = self.process(q).node
        if here == there:
            self.air.append((p, q, signal, WITHIN_A_NODE))
        elif self.connections[(here, there)] == NO_CONNECTION:
            self.send_back(p, q, signal)
        elif not self.broken[wire_between(here, there)]:
            self.air.append((p, q, signal, self.connections[(here, there)]))

    # Within a node, though q stands on another: the sender's own node answers in q's name.
    def send_back(self, p, q, signal):
        back = comes_back(signal, CONNECTION_LOST)
        if back is not None:
            self.air.append((q, p, back, WITHIN_A_NODE))

    def end(self, p, why):
        process = self.process(p)
        for q in sorted(process.links):
            if process.link_holds(q):
                self.send(p, q, (ENDED, why))
        for number, q in process.watched_by.items():
            self.send(p, q, (GONE, number, why))
        for number, q in process.watches.items():
            self.send(p, q, (UNWATCH, number))
        process.end_with(why)

    def end_comes(self, p, why, note):
        process = self.process(p)
        if process.traps == 1:
            process.box.append(note)
        elif why != AS_IT_SHOULD:
            self.end(p, why)
