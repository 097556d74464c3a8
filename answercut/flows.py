"""Greatest flows along paths of stops with bounds, and the least cuts nearest to their beginnings."""

START = 0
END = 1


class Net:
    """Nodes, numbered from 0, and arcs between them; each arc stands beside its reverse, whose number differs by one.

    The reverse of an arc may carry what the arc carries: this takes it back.
    """

    def __init__(self, many):
        self.heads = []
        self.free = []
        self.leaving = [[] for _ in range(many)]

    def add_arc(self, start, end, bound):
        """Add an arc that may carry as much as its bound."""
        for tail, head, free in ((start, end, bound), (end, start, 0)):
            self.leaving[tail].append(len(self.heads))
            self.heads.append(head)
            self.free.append(free)

    def levels(self):
        """Return for each node the number of arcs that lead to it from the start, None if none do."""
        told = [None for _ in self.leaving]
        told[START] = 0
        waiting = [START]
        while waiting:
            fresh = []
            for node in waiting:
                for arc in self.leaving[node]:
                    if self.free[arc] > 0 and told[self.heads[arc]] is None:
                        told[self.heads[arc]] = told[node] + 1
                        fresh.append(self.heads[arc])
            waiting = fresh
        return told

    def fill(self):
        """Let as much flow from the start to the end as the bounds allow."""
        levels = self.levels()
        while levels[END] is not None:
            self.fill_level(levels)
            levels = self.levels()

    def fill_level(self, levels):
        """Let flow what can along arcs that lead from level to level."""
        tried = [0 for _ in self.leaving]
        path = []
        node = START
        while tried[START] < len(self.leaving[START]):
            if node == END:
                kept = self.push(path)
                node = self.tail(path[kept])
                del path[kept:]
            elif tried[node] == len(self.leaving[node]):
                node = self.tail(path.pop())
                tried[node] += 1
            else:
                arc = self.leaving[node][tried[node]]
                if self.free[arc] > 0 and levels[self.heads[arc]] == levels[node] + 1:
                    path.append(arc)
                    node = self.heads[arc]
                else:
                    tried[node] += 1

    def push(self, path):
        """Let flow what the arcs of a path can carry; return the place of the first one that is full behind it."""
        amount = min([self.free[arc] for arc in path])
        for arc in path:
            self.free[arc] -= amount
            self.free[arc ^ 1] += amount
        return [self.free[arc] for arc in path].index(0)

    def tail(self, arc):
        """Return the node that an arc leaves."""
        return self.heads[arc ^ 1]

    def stop_carries(self, at):
        """Return whether anything flows through the stop of a place; the arcs of the stops are the first ones."""
        return self.free[2 * at + 1] > 0

    def reaches(self):
        """Return for each node all nodes that it reaches along arcs that are not full, as the bits of an integer."""
        found = [1 << node for node in range(len(self.leaving))]
        arcs = [(self.tail(arc), head) for arc, head in enumerate(self.heads) if self.free[arc] > 0]
        growing = True
        while growing:
            growing = False
            for tail, head in arcs:
                bits = found[tail] | found[head]
                if bits != found[tail]:
                    found[tail] = bits
                    growing = True
        return found

    def take_path(self):
        """Take a path away on which something flows: return its nodes and the amount, or None if nothing flows."""
        path = []
        node = START
        while node != END:
            carrying = [arc for arc in self.leaving[node] if (arc & 1) == 0 and self.free[arc ^ 1] > 0]
            if not carrying:
                return None
            path.append(carrying[0])
            node = self.heads[carrying[0]]
        amount = min([self.free[arc ^ 1] for arc in path])
        for arc in path:
            self.free[arc ^ 1] -= amount
        return [self.heads[arc] for arc in path], amount


def nearest_cut(paths, bounds):
    """Return the least cut nearest to the beginning of some paths, and a greatest flow.

    Paths and bounds are as full_net tells. The cut is a list of stops; the flow is a list of pairs of a tuple of stops
    and an amount. (Its tuples may be mixed from those of several paths, where these meet.)
    """
    stops = list(bounds)
    net = full_net(paths, bounds)
    levels = net.levels()
    cut = [
        stop for at, stop in enumerate(stops)
        if levels[entry_of(at)] is not None and levels[entry_of(at) + 1] is None
    ]
    flow = []
    taken = net.take_path()
    while taken is not None:
        nodes, amount = taken
        # Each stop is an arc between two nodes of the path, whose last node is the end.
        flow.append((tuple([stops[_stop_at(node)] for node in nodes[:-1:2]]), amount))
        taken = net.take_path()
    return cut, flow


def entry_of(at):
    """Return the node where a stop's arc begins; it ends in the next node."""
    return 2 * at + 2


def _stop_at(node):
    return (node - 2) // 2


def full_net(paths, bounds):
    """Return the net of some paths, in which as much flows as can.

    A path is a tuple of stops, the same number in each, and no stop stands at two places. Bounds are a dict from the
    stops of the paths to what each may carry, or to None if it is not to be cut; each path has a stop with a bound.
    """
    # With this bound an arc is never full: all stops together carry less.
    unbounded = sum([bound for bound in bounds.values() if bound is not None]) + 1
    places = {stop: at for at, stop in enumerate(bounds)}
    net = Net(2 * len(places) + 2)
    for stop, at in places.items():
        bound = bounds[stop]
        net.add_arc(entry_of(at), entry_of(at) + 1, unbounded if bound is None else bound)
    joined = {}
    for path in paths:
        nodes = [START] + [entry_of(places[stop]) for stop in path]
        for tail, head in zip(nodes, nodes[1:] + [END]):
            joined[(tail if tail == START else tail + 1, head)] = True
    for tail, head in joined:
        net.add_arc(tail, head, unbounded)
    net.fill()
    return net
