"""A heap: things, the links between them, the ways to a thing and what it alone keeps."""


class Thing:
    """A thing: its class's number, the row that made it, its bytes, and what its fields hold (None: nothing)."""

    def __init__(self, kind, row, size, fields):
        self.kind = kind
        self.row = row
        self.size = size
        self.fields = fields


class Heap:
    """The things that were made, and what the variables hold (None: nothing)."""

    def __init__(self, things, variables):
        self.things = things
        self.variables = variables


def snapshot_of(heap):
    """The heap as it is now, apart from what becomes of it."""
    things = [Thing(thing.kind, thing.row, thing.size, thing.fields.copy()) for thing in heap.things]
    return Heap(things, heap.variables.copy())


def links_from(begins, holders):
    """The links that begin at one place: each is where it begins, which one, and the thing that it leads to."""
    return [(begins, which, held) for which, held in enumerate(holders) if held is not None]


def shortest_ways(heap, avoided):
    """The shortest way to each thing that has one that doesn't go by the avoided thing (None: by none)."""
    ways = {}
    # Ways stand here by their length, and as long ones in the order of their links: the first to a thing is the one.
    waiting = [[link] for link in links_from(0, heap.variables)]
    place = 0
    while place < len(waiting):
        way = waiting[place]
        place += 1
        thing = way[-1][2]
        if thing != avoided and thing not in ways:
            ways[thing] = way
            waiting.extend([way + [link] for link in links_from(thing + 1, heap.things[thing].fields)])
    return ways


def come_to(heap):
    """The things that are come to, rising."""
    return sorted(shortest_ways(heap, None))


def kept_by(heap, keeper):
    """What a thing that's come to alone keeps, rising."""
    others = shortest_ways(heap, keeper)
    return [thing for thing in come_to(heap) if thing not in others]


def keeper_of(heap, thing):
    """The keeper of a thing that's come to, or None."""
    keepers = {}
    for other in come_to(heap):
        kept = kept_by(heap, other)
        if other != thing and thing in kept:
            keepers[other] = kept
    for keeper in keepers:
        if all([keeper in together for together in keepers.values()]):
            return keeper
    return None


def bytes_of(heap, numbers):
    """How many bytes the things of these numbers have together."""
    return sum([heap.things[number].size for number in numbers])
