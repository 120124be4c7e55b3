"""A heap: things, the links between them, and the ways to a thing."""


class Thing:
    """A thing: its class's number, the row that made it, its bytes, and what its fields hold (None: nothing)."""

    def __init__(self, kind, row, size, fields):
        self.kind = kind
        self.row = row
        self.size = size
        self.fields = fields


class Heap:
    """How many classes the program has, the things that were made, and what the variables hold (None: nothing)."""

    def __init__(self, kind_count, things, variables):
        self.kind_count = kind_count
        self.things = things
        self.variables = variables


def snapshot_of(heap):
    """The heap as it is now, apart from what becomes of it."""
    things = [Thing(thing.kind, thing.row, thing.size, thing.fields.copy()) for thing in heap.things]
    return Heap(heap.kind_count, things, heap.variables.copy())


def links_from(begins, holders):
    """The links that begin at one place: each is where it begins, which one, and the thing that it leads to."""
    return [(begins, which, held) for which, held in enumerate(holders) if held is not None]


def all_links(heap):
    """All links, in order."""
    links = links_from(0, heap.variables)
    for number, thing in enumerate(heap.things):
        links.extend(links_from(number + 1, thing.fields))
    return links


def shortest_ways(heap, cut):
    """The shortest way to each thing that's come to without the links that are cut."""
    ways = {}
    # Ways stand here by their length, and as long ones in the order of their links: the first to a thing is the one.
    waiting = [[link] for link in links_from(0, heap.variables) if link not in cut]
    place = 0
    while place < len(waiting):
        way = waiting[place]
        place += 1
        thing = way[-1][2]
        if thing not in ways:
            ways[thing] = way
            links = links_from(thing + 1, heap.things[thing].fields)
            waiting.extend([way + [link] for link in links if link not in cut])
    return ways


def come_to(heap):
    """The things that are come to, rising."""
    return sorted(shortest_ways(heap, []))


def bytes_of(heap, numbers):
    """How many bytes the things of these numbers have together."""
    return sum([heap.things[number].size for number in numbers])
