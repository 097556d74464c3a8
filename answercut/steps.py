"""The steps from the least cut nearest to the beginning of some paths to all the others."""

from answercut.flows import END, START, entry_of, full_net


def steps_along(paths, bounds):
    """Return (nearest cut, steps) of some paths and their bounds, as full_net tells; no bound is 0.

    A least cut is told by the nodes ahead of it, of those on which anything flows: with each node all those that it
    reaches along arcs that are not full. So a step brings nodes that reach one another, which reach the same nodes, and
    the steps without which it can't be made bring what these reach besides.
    """
    net = full_net(paths, bounds)
    reach = net.reaches()
    begun = reach[START]
    entries, exits = {}, {}
    for at, stop in enumerate(bounds):
        if net.stop_carries(at):
            entries[stop] = reach[entry_of(at)]
            exits[stop] = reach[entry_of(at) + 1]
    first = [stop for stop in entries if _is_within(entries[stop], begun) and not _is_within(exits[stop], begun)]
    made = {
        bits: True for bits in list(entries.values()) + list(exits.values())
        if not _is_within(bits, begun) and not _is_within(1 << END, bits)
    }
    leaving = {bits: _stops(exits, entries, bits) for bits in made}
    ahead = {bits: [other for other in made if other != bits and _is_within(other, bits)] for bits in made}
    order = sorted(made, key=lambda bits: (len(ahead[bits]), leaving[bits]))
    numbers = {bits: at for at, bits in enumerate(order)}
    steps = [
        (leaving[bits], _stops(entries, exits, bits), tuple(sorted([numbers[other] for other in ahead[bits]])))
        for bits in order
    ]
    return tuple(sorted(first)), tuple(steps)


def _is_within(bits, others):
    return bits & others == bits


def _stops(ones, others, bits):
    """Return the ascending tuple of the stops of which one end is brought by a step, and not the other one."""
    return tuple(sorted([stop for stop in ones if ones[stop] == bits and others[stop] != bits]))
