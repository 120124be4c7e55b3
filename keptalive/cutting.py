"""Links that are cut: what goes then, what a thing alone keeps, and the fewest links that let a thing go."""

from keptalive.heap import all_links
from keptalive.heap import come_to
from keptalive.heap import shortest_ways

MOST_CUT = 3


def things_that_go(heap, cut):
    """What goes if these links are cut, rising."""
    ways_left = shortest_ways(heap, cut)
    return [thing for thing in come_to(heap) if thing not in ways_left]


def kept_by(heap, keeper):
    """What a thing that's come to alone keeps, rising."""
    # A way goes by a thing just if one of its links leads to it.
    return things_that_go(heap, [link for link in all_links(heap) if link[2] == keeper])


def keeper_of(heap, thing):
    """The keeper of a thing that's come to, or None."""
    keepers = {}
    for other in come_to(heap):
        kept = kept_by(heap, other)
        if other != thing and thing in kept:
            keepers[other] = kept
    for keeper in keepers:
        if all([keeper in together for together in keepers.values()]):
            return keeper
    return None


def links_in_use(heap):
    """The links that begin at a variable or at a thing that's come to, in order."""
    reached = come_to(heap)
    return [link for link in all_links(heap) if link[0] == 0 or link[0] - 1 in reached]


def link_in_use(heap, begins, which):
    """The link of these numbers that begins at a variable or at a thing that's come to, or None."""
    for link in links_in_use(heap):
        if link[0] == begins and link[1] == which:
            return link
    return None


def can_go(heap, thing, cut, more):
    """Whether a thing goes if these links are cut, and so many more of some choice at the most."""
    ways = shortest_ways(heap, cut)
    if thing not in ways:
        return True
    if more == 0:
        return False
    # Every way has to be cut somewhere, so this one has to, too: no other links need be tried.
    for link in ways[thing]:
        if can_go(heap, thing, cut + [link], more - 1):
            return True
    return False


def first_row_of_cuts(heap, thing, count):
    """The first row of so many links that lets a thing go that fewer don't let go."""
    row = []
    # Of a row that comes first each link is the earliest that still stands in some such row with those ahead of it.
    for link in links_in_use(heap):
        if len(row) < count and can_go(heap, thing, row + [link], count - len(row) - 1):
            row.append(link)
    return row


def fewest_cuts(heap, thing):
    """The first row of the fewest links that let a thing go that's come to, or None if there would be too many."""
    for count in range(1, MOST_CUT + 1):
        if can_go(heap, thing, [], count):
            return first_row_of_cuts(heap, thing, count)
    return None
