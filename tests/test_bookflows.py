"""Networks and the flows of books, on which most of the package relies."""

import itertools
import random

from latecharge.bookflows import BookFlow, flow_in_turn, full_flow, limits_around, outermost
from latecharge.networks import Network
from tests.samples import BOOK, HALF, LIMITS, MORE, SIXTY, Case, subsets


def random_network(seed):
    """The edges of a network with six nodes, as (tail, head, room)."""
    choice = random.Random(seed)
    pairs = choice.sample(list(itertools.permutations(range(6), 2)), choice.randint(3, 14))
    return [(tail, head, choice.randint(0, 4)) for tail, head in pairs]


class TestNetworks(Case):

    def test_as_much_as_the_least_cut(self):
        for seed in range(200):
            edges = random_network(seed)
            network = Network(6)
            numbers = [network.new_edge(*edge) for edge in edges]
            network.fill(0, 5)
            flows = [network.flow_on(number) for number in numbers]
            self.assertTrue(all(0 <= flow <= room for flow, (_, _, room) in zip(flows, edges)))
            sent = [sum(flow for flow, (tail, _, _) in zip(flows, edges) if tail == node)
                    - sum(flow for flow, (_, head, _) in zip(flows, edges) if head == node) for node in range(6)]
            self.same(sent[1:5], [0] * 4)
            cuts = [sum(room for tail, head, room in edges if tail in {0, *inner} and head not in {0, *inner})
                    for inner in subsets((1, 2, 3, 4))]
            self.same([sent[0], -sent[5]], [min(cuts)] * 2)
            self.assertFalse(network.are_reached(0)[5])

    def test_cheapest_ways_first(self):
        network = Network(3)
        dear, cheap = network.new_edge(0, 1, SIXTY), network.new_edge(0, 1, 3)
        last = network.new_edge(1, 2, 5)
        network.set_cost(dear, 1)
        network.fill(0, 2)
        self.same([network.flow_on(edge) for edge in (dear, cheap, last)], [2, 3, 5])
        network.set_room(last, 2)
        network.fill(0, 2)
        self.same([network.flow_on(edge) for edge in (dear, cheap, last)], [4, 3, 7])

    def test_units_are_sent_another_way(self):
        # The cheap way of the first unit stands in the way of the second one.
        network = Network(4)
        first, across, second = network.new_edge(0, 1, 1), network.new_edge(1, 2, 1), network.new_edge(0, 2, 1)
        dear, end = network.new_edge(1, 3, 1), network.new_edge(2, 3, 1)
        network.set_cost(dear, 3)
        network.set_cost(second, 2)
        network.fill(0, 3)
        self.same([network.flow_on(edge) for edge in (first, across, second, dear, end)], [1, 0, 1, 1, 1])

    def test_ways_to_a_node(self):
        network = Network(4)
        first, second = network.new_edge(0, 1, 1), network.new_edge(1, 2, 1)
        network.set_cost(second, 4)
        self.same(network.ways_from(2, 1)[0], [4, 4, 0, None])
        network.fill(0, 2)
        self.same(network.ways_from(0, 1)[0], [0, 0, -4, None])
        self.same(network.flow_on(first), 1)
        self.same(network.ways_from(network.new_node(), 0)[0], [None] * 4 + [0])


class TestBookFlows(Case):

    def test_limits_around(self):
        self.same([limits_around(LIMITS, k) for k in range(3)], [[], [], [1]])
        deep = ((('a',), 3, 3, 0), (('a', 'b'), 0, 9, 0), (('a',), 2, 4, 0), (('b',), 3, 3, 0), (('a', 'b'), 1, 5, 0))
        self.same([limits_around(deep, k) for k in range(5)], [[2, 4, 1], [], [4, 1], [4, 1], [1]])
        self.same([outermost(deep, [0, 2, 3]), outermost(deep, [0, 1, 4]), outermost(deep, [])], [[2, 3], [1], []])

    def test_gates(self):
        flow = BookFlow(BOOK)
        self.same([flow.unpaid(), flow.charging()], [17, ((0, 0, 0), (0, 0, 0))])
        flow.open_gate(1)
        self.same([flow.unpaid(), flow.units_of(0), flow.units_of(1)], [3, 0, 14])
        flow.open_gate(0, 2)
        self.same([flow.unpaid(), flow.units_of(0), flow.units_of(1)], [1, 2, 14])

    def test_flows(self):
        self.same([full_flow(book).unpaid() for book in (BOOK, HALF, MORE)], [0, 0, 1])
        self.same(full_flow(MORE).cut(), ([0, 2], [0, 2]))
        self.same(flow_in_turn(BOOK, (), [0, 1]).charging(), ((8, 0, 0), (0, 0, 9)))
        self.same(flow_in_turn(BOOK, (4,), [1]).charging(), ((4, 4, 0), (0, 0, 9)))
