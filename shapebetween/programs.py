"""Programs: nodes, and edges between them that touch lots."""

from shapebetween.errors import DuplicateName, InvalidEdge, InvalidName, InvalidNodes, InvalidWalk, UnknownName
from shapebetween.limits import check_limit, is_number
from shapebetween.lots import check_all_live, check_living, is_lot, is_name
from shapebetween.scripts import Script


class Program:
    """Living keys, a list of nodes, of which the first one is the start, and a list of edges; it never changes."""

    def __init__(self, living, nodes, edges=()):
        check_living(living)
        check_nodes(nodes)
        check_edges(living, nodes, edges)
        self._nodes = tuple(nodes)
        self._edges = tuple(edges)
        self.living = living
        self.start = nodes[0]

    def nodes(self):
        """The list of the nodes."""
        return list(self._nodes)

    def edges(self):
        """The list of the edges."""
        return list(self._edges)

    def leaving(self, node):
        """The ascending list of the indexes of the edges that leave a node."""
        if not is_name(node) or node not in self._nodes:
            raise UnknownName(node)
        return [at for at, edge in enumerate(self._edges) if edge[0] == node]

    def end_of(self, walk):
        """The node at which a walk ends."""
        if not isinstance(walk, (list, tuple)):
            raise InvalidWalk(-1)
        node = self.start
        for at, index in enumerate(walk):
            if not is_number(index) or index not in self.leaving(node):
                raise InvalidWalk(at)
            node = self._edges[index][1]
        return node

    def script_of(self, walk):
        """The script of a walk."""
        self.end_of(walk)
        return Script(self.living, [self._edges[index][2] for index in walk])

    def __len__(self):
        return len(self._nodes)

    def __repr__(self):
        return f"Program({len(self._nodes)} nodes, {len(self._edges)} edges)"

    def __eq__(self, other):
        return (isinstance(other, Program) and self.living == other.living
                and self._nodes == other._nodes and self._edges == other._edges)


def check_nodes(nodes):
    """Raise the first error that keeps any value from being the nodes of a program."""
    if not isinstance(nodes, (list, tuple)) or len(nodes) == 0:
        raise InvalidNodes()
    for node in nodes:
        if not is_name(node):
            raise InvalidName(node)
    for at, node in enumerate(nodes):
        if node in nodes[:at]:
            raise DuplicateName(node)
    check_limit("nodes", len(nodes))


def check_edges(living, nodes, edges):
    """Raise the first error that keeps any value from being the edges between these nodes."""
    if not isinstance(edges, (list, tuple)):
        raise InvalidEdge(-1)
    check_limit("edges", len(edges))
    for at, edge in enumerate(edges):
        if not is_edge(edge):
            raise InvalidEdge(at)
        for name in edge[:2]:
            if name not in nodes:
                raise UnknownName(name)
        check_all_live(living, edge[2])
        if edge in edges[:at]:
            raise InvalidEdge(at)


def is_edge(value):
    """Whether any value is a tuple of two names and a lot."""
    if not isinstance(value, tuple) or len(value) != 3:
        return False
    return is_name(value[0]) and is_name(value[1]) and is_lot(value[2])
