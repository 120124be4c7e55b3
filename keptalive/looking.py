"""Snapshots looked into: what all calls but write answer."""

from keptalive.counting import never_freed
from keptalive.cutting import fewest_cuts
from keptalive.cutting import keeper_of
from keptalive.cutting import kept_by
from keptalive.cutting import link_in_use
from keptalive.cutting import things_that_go
from keptalive.growing import rows_that_grow
from keptalive.heap import bytes_of
from keptalive.heap import come_to
from keptalive.heap import shortest_ways

NOT_IN_ORDER = -1
NO_SNAPSHOT = -2
NO_THING = -3
NOT_COME_TO = -6
NOT_ENOUGH = -7

# By how many snapshots t has to be behind s, at the least.
LEAST_GROWING = 2


def and_one(held):
    """How it's answered what a variable or a field holds: 0, or the thing's number and one."""
    return 0 if held is None else held + 1


def counted(rows):
    """How many rows of numbers there are, then all their numbers."""
    answer = [len(rows)]
    for row in rows:
        answer.extend(list(row))
    return answer


def counted_bytes(heap, numbers):
    """How many bytes some things have together, how many they are, then these."""
    return [bytes_of(heap, numbers), len(numbers)] + numbers


# Each of these answers the call of its name, of a snapshot that's there.


def snap(heap):
    reached = come_to(heap)
    holders = [and_one(held) for held in heap.variables]
    return [len(heap.things), len(reached), bytes_of(heap, reached)] + holders


def things(heap):
    reached = come_to(heap)
    answer = [len(heap.things)]
    for number, thing in enumerate(heap.things):
        answer.extend([thing.kind, thing.row, 1 if number in reached else 0, len(thing.fields)])
        answer.extend([and_one(held) for held in thing.fields])
    return answer


def never(heap):
    return counted_bytes(heap, never_freed(heap))


def classes(heap):
    answer = [heap.kind_count]
    for kind in range(heap.kind_count):
        numbers = [number for number in come_to(heap) if heap.things[number].kind == kind]
        answer.extend([len(numbers), bytes_of(heap, numbers)])
    return answer


def most(heap, how_many):
    sizes = {}
    for thing in come_to(heap):
        sizes[thing] = bytes_of(heap, kept_by(heap, thing))
    told = sorted(sizes, key=lambda thing: (-sizes[thing], thing))[:how_many]
    return counted([(thing, sizes[thing]) for thing in told])


def cut(heap, begins, which):
    link = link_in_use(heap, begins, which)
    if link is None:
        return [NOT_COME_TO]
    return counted_bytes(heap, things_that_go(heap, [link]))


# Each of these answers the call of its name, of a snapshot that's there and a thing that's come to.


def way(heap, thing):
    return counted(shortest_ways(heap, [])[thing])


def keeps(heap, thing):
    return [and_one(keeper_of(heap, thing))] + counted_bytes(heap, kept_by(heap, thing))


def fewest(heap, thing):
    links = fewest_cuts(heap, thing)
    return [NOT_ENOUGH] if links is None else counted(links)


# Each of these answers the call of its name, of two snapshots that are there.


def new(snapshots, s, t):
    if t < s:
        return [NOT_IN_ORDER]
    ahead = come_to(snapshots[s])
    behind = come_to(snapshots[t])
    came = [number for number in behind if number not in ahead]
    went = [number for number in ahead if number not in behind]
    return [len(came)] + came + [len(went)] + went


def grows(snapshots, s, t):
    if t < s + LEAST_GROWING:
        return [NOT_IN_ORDER]
    return counted(rows_that_grow(snapshots[s:t + 1]))


# The calls by their numbers, and by what they're about.
ABOUT_SNAPSHOTS = {1: snap, 2: things, 8: never, 11: classes}
ABOUT_THINGS = {3: way, 4: keeps, 7: fewest}
ABOUT_TWO_SNAPSHOTS = {9: new, 10: grows}
MOST = 5
# 6 is cut: what is none of these.


def of_thing(heap, call, thing):
    """What a call about a thing answers, whether it is there or not."""
    if thing >= len(heap.things):
        return [NO_THING]
    if thing not in come_to(heap):
        return [NOT_COME_TO]
    return ABOUT_THINGS[call](heap, thing)


def of_snapshot(heap, call, numbers):
    """What a call about one snapshot answers, with the numbers behind the snapshot's."""
    if call in ABOUT_SNAPSHOTS:
        return ABOUT_SNAPSHOTS[call](heap)
    if call in ABOUT_THINGS:
        return of_thing(heap, call, numbers[0])
    if call == MOST:
        return most(heap, numbers[0])
    return cut(heap, numbers[0], numbers[1])


def look(snapshots, call, numbers):
    """What a call other than write answers, whether its snapshots are there or not."""
    if numbers[0] >= len(snapshots):
        return [NO_SNAPSHOT]
    if call not in ABOUT_TWO_SNAPSHOTS:
        return of_snapshot(snapshots[numbers[0]], call, numbers[1:])
    if numbers[1] >= len(snapshots):
        return [NO_SNAPSHOT]
    return ABOUT_TWO_SNAPSHOTS[call](snapshots, numbers[0], numbers[1])
