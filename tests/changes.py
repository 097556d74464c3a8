"""Objects like a right one, changed at some place."""

INTEGERS = (0, 1, 2, -1, 10 ** 30, 10 ** 40)
STRINGS = ("", "a", "b", "x", "cut", "stands", "blame", "none")


def changes(thing):
    """Yield objects that differ from a thing at one place, wherever in it this is."""
    yield None
    yield (thing,)
    yield [thing]
    if isinstance(thing, int):
        yield from (thing + 1, thing - 1, -thing, bool(thing), str(thing), thing + 10 ** 40)
        yield from INTEGERS
    elif isinstance(thing, str):
        yield from (thing + "x", thing[1:], thing.upper(), 1)
        yield from STRINGS
    elif isinstance(thing, dict):
        yield from ({}, list(thing), {**thing, "zz": 1})
        for key in thing:
            yield {other: worth for other, worth in thing.items() if other != key}
            for part in changes(thing[key]):
                yield {**thing, key: part}
    elif isinstance(thing, (tuple, list)):
        yield from parts_changed(thing)


def parts_changed(thing):
    kind = type(thing)
    yield tuple(thing) if kind is list else list(thing)
    yield kind()
    yield thing[::-1]
    yield thing + thing[-1:]
    yield thing + kind([None])
    yield kind(sorted(thing, key=repr))
    for at in range(len(thing)):
        yield thing[:at] + thing[at + 1:]
        yield thing[:at] + thing[at:at + 1] + thing[at:]
        yield thing[:at] + kind([0]) + thing[at:]
        yield thing[:at] + thing[at + 1:at + 2] + thing[at:at + 1] + thing[at + 2:]
        for part in changes(thing[at]):
            yield thing[:at] + kind([part]) + thing[at + 1:]


def some_changes(source, thing, many):
    """Return a list of at most so many of a thing's changes, and of changes of these."""
    found = list(changes(thing))
    chosen = source.sample(found, min(many, len(found)))
    return chosen + [source.choice(list(changes(one))) for one in chosen[::5]]
