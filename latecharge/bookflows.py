"""Books as networks: units go from open rows into limits, from these into the limits around them, then to sponsors."""

from latecharge.bookparts import can_pay, left_of, limits_over, open_rows, sponsor_of, sponsors_of
from latecharge.limitareas import is_inside, slots_in
from latecharge.networks import Network

SOURCE = 0
SINK = 1
FIRST_NODE = 2


def limits_around(limits, k):
    """The indexes of the limits whose area has that of limit k within, from the least one to the greatest one."""
    found = [(slots_in(other), m) for m, other in enumerate(limits) if m != k and is_inside(limits[k], other)]
    return [pair[1] for pair in sorted(found)]


def outermost(limits, some):
    """Those of some indexes of limits whose areas are not within that of another one of these."""
    return [k for k in some if not any([m in some for m in limits_around(limits, k)])]


class BookFlow:
    """A flow of the open amounts of a book; a sponsor gets nothing before its gate is opened."""

    def __init__(self, book):
        purses, limits, rows = book
        self.purses = purses
        self.limits = limits
        self.opened = open_rows(book)
        self.sponsors = sponsors_of(book)
        amounts = [rows[t][3] for t in self.opened]
        lefts = [left_of(book, k) for k in range(len(limits))]
        # No flow is so great: an edge with this room is never full.
        self.unlimited = sum(amounts) + sum(lefts) + 1
        self.network = Network(FIRST_NODE + len(self.sponsors) + len(limits) + len(self.opened))
        self.gates = [self.network.new_edge(self.gate_node(n), SINK, 0) for n in range(len(self.sponsors))]
        self.limit_edges = [
            self.network.new_edge(self.limit_node(k), self.node_around(k), left) for k, left in enumerate(lefts)
        ]
        self.row_edges = [
            self.network.new_edge(SOURCE, self.row_node(i), amount) for i, amount in enumerate(amounts)
        ]
        self.pay_edges = [
            (i, j, self.network.new_edge(self.row_node(i), self.node_over(book, j, rows[t][1]), self.unlimited))
            for i, t in enumerate(self.opened)
            for j, purse in enumerate(purses)
            if can_pay(purse, rows[t][1], rows[t][2])
        ]

    def gate_node(self, n):
        """The node of sponsor n."""
        return FIRST_NODE + n

    def limit_node(self, k):
        """The node of limit k."""
        return FIRST_NODE + len(self.sponsors) + k

    def row_node(self, i):
        """The node of the open row i."""
        return FIRST_NODE + len(self.sponsors) + len(self.limits) + i

    def node_behind(self, around, name):
        """The node of the first of some limits, or of the sponsor of a purse if there is none."""
        if len(around) > 0:
            return self.limit_node(around[0])
        return self.gate_node(self.sponsors.index(sponsor_of(self.purses, name)))

    def node_around(self, k):
        """The node behind limit k."""
        return self.node_behind(limits_around(self.limits, k), self.limits[k][0][0])

    def node_over(self, book, j, day):
        """The node behind a slot of purse j."""
        name = self.purses[j][0]
        return self.node_behind(limits_over(book, name, day), name)

    def open_gate(self, n, most=None):
        """Lets sponsor n pay as much as it can beside those with open gates, or at most so much."""
        self.network.set_room(self.gates[n], self.unlimited if most is None else most)
        self.network.fill(SOURCE, SINK)

    def open_gates(self):
        """Lets all sponsors pay whatever they can."""
        for gate in self.gates:
            self.network.set_room(gate, self.unlimited)
        self.network.fill(SOURCE, SINK)

    def units_of(self, n):
        """How much sponsor n pays of the open amounts."""
        return self.network.flow_on(self.gates[n])

    def unpaid(self):
        """How much of the amounts is not paid."""
        return sum([self.network.rooms[edge] for edge in self.row_edges])

    def charging(self):
        """What each purse pays for each open row."""
        paid = {(i, j): self.network.flow_on(edge) for i, j, edge in self.pay_edges}
        return tuple([
            tuple([paid.get((i, j), 0) for j in range(len(self.purses))]) for i in range(len(self.opened))
        ])

    def cut(self):
        """The indexes of the open rows that could pay more in, and of the limits that keep them from it."""
        reached = self.network.are_reached(SOURCE)
        some = [t for i, t in enumerate(self.opened) if reached[self.row_node(i)]]
        # What is reached can not go on behind the outermost ones, so these are full.
        limits = [k for k in range(len(self.limits)) if reached[self.limit_node(k)]]
        return (some, outermost(self.limits, limits))


def full_flow(book):
    """A flow in which as much of the open amounts is paid as can be."""
    flow = BookFlow(book)
    flow.open_gates()
    return flow


def flow_in_turn(book, units, order):
    """A flow in which the first sponsors pay up to these units, then those of an order what they can beside that.

    Sponsors are told by their places. Each one pays as much as it can before the next one pays anything.
    """
    flow = BookFlow(book)
    for n, most in enumerate(units):
        flow.open_gate(n, most)
    for n in order:
        flow.open_gate(n)
    return flow
