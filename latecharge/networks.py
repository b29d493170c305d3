"""Flows through a network: units go from node to node along edges, each of which has room for so many."""


class Network:
    """Edge e leads to heads[e] and has room for rooms[e] units more; edge e ^ 1 leads back along it."""

    def __init__(self, many):
        self.heads = []
        self.rooms = []
        self.costs = []
        self.edges_at = [[] for _ in range(many)]

    def new_node(self):
        """A further node."""
        self.edges_at.append([])
        return len(self.edges_at) - 1

    def new_edge(self, tail, head, room):
        """A further edge, on which a unit costs nothing."""
        edge = len(self.heads)
        self.heads.extend([head, tail])
        self.rooms.extend([room, 0])
        self.costs.extend([0, 0])
        self.edges_at[tail].append(edge)
        self.edges_at[head].append(edge + 1)
        return edge

    def set_room(self, edge, room):
        """The edge has room for so many units more."""
        self.rooms[edge] = room

    def set_cost(self, edge, cost):
        """A unit on this edge costs so much, a unit taken back gives as much."""
        self.costs[edge] = cost
        self.costs[edge ^ 1] = -cost

    def kept_rooms(self):
        """What put_rooms needs to make the flow again what it is now."""
        return list(self.rooms)

    def put_rooms(self, rooms):
        """The flow is again what it was when these rooms were kept."""
        self.rooms = list(rooms)

    def flow_on(self, edge):
        """How many units go along an edge."""
        return self.rooms[edge ^ 1]

    def ways_from(self, start, turn):
        """For each node the least cost of a way from the start, and the last edge of it; None for nodes without one.

        With turn 1 edges are gone along against their direction: these are the ways to the start.
        """
        costs = [None] * len(self.edges_at)
        last = [None] * len(self.edges_at)
        costs[start] = 0
        queue = [start]
        at = 0
        while at < len(queue):
            node = queue[at]
            at += 1
            for edge in self.edges_at[node]:
                head = self.heads[edge]
                cost = costs[node] + self.costs[edge ^ turn]
                if self.rooms[edge ^ turn] > 0 and (costs[head] is None or cost < costs[head]):
                    costs[head] = cost
                    last[head] = edge
                    queue.append(head)
        return (costs, last)

    def are_reached(self, start):
        """For each node whether a unit more can go from the start to it."""
        costs, _ = self.ways_from(start, 0)
        return [cost is not None for cost in costs]

    def way_between(self, start, end):
        """The edges of a cheapest way for a unit more, from the last one to the first one; none if there is no way."""
        _, last = self.ways_from(start, 0)
        way = []
        node = end
        while last[node] is not None:
            way.append(last[node])
            node = self.heads[last[node] ^ 1]
        return way

    def fill(self, start, end):
        """Sends as many units more as can go, always by a cheapest way."""
        way = self.way_between(start, end)
        while len(way) > 0:
            units = min([self.rooms[edge] for edge in way])
            for edge in way:
                self.rooms[edge] -= units
                self.rooms[edge ^ 1] += units
            way = self.way_between(start, end)
