"""Counting: which things are never freed if links are only counted."""

from keptalive.heap import all_links
from keptalive.heap import come_to


def still_held(heap, there):
    """Of the things that are there those to which a link leads from a variable or from one of them, rising."""
    held = [link[2] for link in all_links(heap) if link[0] == 0 or link[0] - 1 in there]
    return [thing for thing in there if thing in held]


def left_by_counting(heap):
    """The things that counting doesn't free, rising."""
    there = list(range(len(heap.things)))
    held = still_held(heap, there)
    while held != there:
        there = held
        held = still_held(heap, there)
    return there


def never_freed(heap):
    """The things that are not come to and that counting doesn't free, rising."""
    reached = come_to(heap)
    return [thing for thing in left_by_counting(heap) if thing not in reached]
