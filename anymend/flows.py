"""Greatest flows through a graph whose arcs carry whole numbers."""


class Graph:
    """Vertices, numbered from 0 on, and arcs with the most that they carry.

    Behind each arc stands its way back, which lets as much as the arc
    carries: taking some of that back is a flow on the way back.
    """

    def __init__(self):
        self.leaving = []
        self.heads = []
        self.free = []

    def new_vertex(self):
        """The number of a new vertex."""
        self.leaving.append([])
        return len(self.leaving) - 1

    def new_arc(self, tail, head, most):
        """The number of a new arc."""
        number = len(self.heads)
        self.leaving[tail].append(number)
        self.leaving[head].append(number + 1)
        self.heads.extend([head, tail])
        self.free.extend([most, 0])
        return number

    def carried(self, arc):
        """What an arc carries now."""
        return self.free[arc + 1]


def arcs_into(graph, source):
    """By which arc each vertex is reached from a source by arcs that carry more yet, on a shortest path."""
    came = {source: None}
    queue = [source]
    at = 0
    while at < len(queue):
        vertex = queue[at]
        at += 1
        for arc in graph.leaving[vertex]:
            head = graph.heads[arc]
            if graph.free[arc] > 0 and head not in came:
                came[head] = arc
                queue.append(head)
    return came


def path_to(graph, came, sink):
    """The arcs by which a vertex was reached."""
    path = []
    at = sink
    while came[at] is not None:
        path.append(came[at])
        # The other one of an arc and its way back leads to the arc's tail.
        at = graph.heads[came[at] ^ 1]
    return path


def fill(graph, source, sink):
    """Make the flow from a source to a sink greatest."""
    came = arcs_into(graph, source)
    while sink in came:
        path = path_to(graph, came, sink)
        more = min([graph.free[arc] for arc in path])
        for arc in path:
            graph.free[arc] -= more
            graph.free[arc ^ 1] += more
        came = arcs_into(graph, source)
