"""Water that is sent on its ways from cell to cell, and sent on other ways again."""

from heldwater.cells import all_water, cells_of, own_water, ways_into

# Where all water of a basin comes from: a node beside the cells.
SOURCE = "source"


class Network:
    """The ways between the cells of a basin, and what they carry.

    Each way has two arcs: an even one along it, whose spare is what it can still take, and the
    odd one next to it, against it, whose spare is what it carries, which can be taken off again.
    """

    def __init__(self, basin):
        self.heads = []
        self.spare = []
        self.leaving = {SOURCE: []}
        self.arcs = {}
        cells = cells_of(basin)
        for cell in cells:
            self.leaving[cell] = []
        never_full = all_water(basin) + 1
        for cell in cells:
            self.add_way(SOURCE, cell, own_water(basin, cell))
            for kind, ahead, limit in ways_into(basin, cell):
                self.arcs[(kind, ahead)] = len(self.heads)
                # A way without a limit is never full: one more than all water is never on it.
                self.add_way(ahead, cell, never_full if limit is None else limit)

    def add_way(self, tail, head, limit):
        """Puts in a way that carries nothing yet."""
        self.leaving[tail].append(len(self.heads))
        self.heads.append(head)
        self.spare.append(limit)
        self.leaving[head].append(len(self.heads))
        self.heads.append(tail)
        self.spare.append(0)

    def send(self, tail, head, most):
        """Sends as much as can go, at most this, from one node to another; tells how much."""
        sent = 0
        while sent < most:
            path = self.find_path(tail, head)
            if not path:
                return sent
            amount = min([most - sent] + [self.spare[arc] for arc in path])
            for arc in path:
                self.spare[arc] -= amount
                self.spare[twin(arc)] += amount
            sent += amount
        return sent

    def search(self, tail, head):
        """The nodes to which more could be sent from this one, each with the arc into it; ends at the head."""
        came_by = {tail: None}
        queue = [tail]
        k = 0
        while k < len(queue) and head not in came_by:
            here = queue[k]
            for arc in self.leaving[here]:
                node = self.heads[arc]
                if self.spare[arc] > 0 and node not in came_by:
                    came_by[node] = arc
                    queue.append(node)
            k += 1
        return came_by

    def find_path(self, tail, head):
        """The arcs of a shortest path from one node to another, the last one first; [] if there is none."""
        came_by = self.search(tail, head)
        path = []
        node = head
        while node in came_by and node != tail:
            path.append(came_by[node])
            node = self.heads[twin(came_by[node])]
        return path

    def nodes_below(self, tail):
        """The nodes to which more could be sent from this one, itself among them."""
        return list(self.search(tail, None))

    def nodes_above(self, head):
        """The nodes from which more could be sent to this one, itself among them."""
        nodes = [head]
        k = 0
        while k < len(nodes):
            here = nodes[k]
            for arc in self.leaving[here]:
                node = self.heads[arc]
                if self.spare[twin(arc)] > 0 and node not in nodes:
                    nodes.append(node)
            k += 1
        return nodes

    def settle(self, kind, cell):
        """Sends as much as can go of what a way carries on other ways; the rest, which it tells, stays for good."""
        if (kind, cell) not in self.arcs:
            return 0
        arc = self.arcs[(kind, cell)]
        carried = self.spare[twin(arc)]
        self.spare[arc] = 0
        self.spare[twin(arc)] = 0
        return carried - self.send(cell, self.heads[arc], carried)


def twin(arc):
    """The other arc of the same way."""
    return arc ^ 1
