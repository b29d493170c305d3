"""Papers on raises."""

from latecharge.bookflows import SINK
from latecharge.raising import raising_flow


def raise_paper(book):
    """A raise paper; None if no raise is enough."""
    flow, extra = raising_flow(book, ())
    if flow.unpaid() > 0:
        return None
    units = tuple([flow.network.flow_on(edge) for edge in extra])
    # How much dearer a further unit would be there: each limit on its way whose cap is used up costs one.
    costs, _ = flow.network.ways_from(SINK, 1)
    # None is the cost of a row of nothing that no purse may pay for.
    levels = tuple([costs[flow.row_node(i)] or 0 for i in range(len(flow.opened))])
    limits = [
        k for k, edge in enumerate(flow.limit_edges) if costs[flow.limit_node(k)] > costs[flow.network.heads[edge]]
    ]
    return (units, flow.charging(), levels, tuple(limits))
