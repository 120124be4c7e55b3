"""A house: the calls on it, and what they answer."""

from keptalive.heap import bytes_of
from keptalive.heap import come_to
from keptalive.heap import keeper_of
from keptalive.heap import kept_by
from keptalive.heap import shortest_ways
from keptalive.program import Program
from keptalive.program import read_rows
from keptalive.run import run_program
from keptalive.run import stopped_at
from keptalive.words import rows_of

WRITE = 0
SNAP = 1
THINGS = 2
WAY = 3
KEEPS = 4
# 5 is most: what is none of these.

# How many numbers are handed over with each call but write, by the call's number.
NUMBER_COUNTS = {1: 1, 2: 1, 3: 2, 4: 2, 5: 2}

MOST_BYTES = 600
HIGHEST_BYTE = 255

NO_TEXT = -1
NO_SNAPSHOT = -2
NO_THING = -3
NOT_COME_TO = -6


class House:
    """What is kept from call to call: the snapshots of the program written last."""

    def __init__(self):
        self.snapshots = []


def and_one(held):
    """How it's answered what a variable or a field holds: 0, or the thing's number and one."""
    return 0 if held is None else held + 1


def write(house, text):
    """Runs the program of a text, unless the text is refused."""
    if len(text) > MOST_BYTES or any([byte > HIGHEST_BYTE for byte in text]):
        return [NO_TEXT]
    program = Program(rows_of(text))
    refusal = read_rows(program)
    if refusal != 0:
        return [refusal]
    run = run_program(program)
    house.snapshots = run.snapshots
    return [len(run.heap.things), run.steps, len(run.snapshots), stopped_at(run)]


# Each of the next five answers the call of its name, of a snapshot and a thing that are known to be there.


def snap(heap):
    reached = come_to(heap)
    holders = [and_one(held) for held in heap.variables]
    return [len(heap.things), len(reached), bytes_of(heap, reached)] + holders


def things(heap):
    reached = come_to(heap)
    answer = [len(heap.things)]
    for number, thing in enumerate(heap.things):
        answer.extend([thing.kind, thing.row, 1 if number in reached else 0, len(thing.fields)])
        answer.extend([and_one(held) for held in thing.fields])
    return answer


def way(heap, thing):
    links = shortest_ways(heap, None)[thing]
    answer = [len(links)]
    for link in links:
        answer.extend(list(link))
    return answer


def keeps(heap, thing):
    kept = kept_by(heap, thing)
    return [and_one(keeper_of(heap, thing)), bytes_of(heap, kept), len(kept)] + kept


def most(heap, how_many):
    sizes = {}
    for thing in come_to(heap):
        sizes[thing] = bytes_of(heap, kept_by(heap, thing))
    told = sorted(sizes, key=lambda thing: (-sizes[thing], thing))[:how_many]
    answer = [len(told)]
    for thing in told:
        answer.extend([thing, sizes[thing]])
    return answer


def of_thing(heap, call, thing):
    """What way and keeps answer of a thing, whether it is there or not."""
    if thing >= len(heap.things):
        return [NO_THING]
    if thing not in come_to(heap):
        return [NOT_COME_TO]
    return way(heap, thing) if call == WAY else keeps(heap, thing)


def of_snapshot(house, call, numbers):
    """What a call other than write answers, whether its snapshot is there or not."""
    if numbers[0] >= len(house.snapshots):
        return [NO_SNAPSHOT]
    heap = house.snapshots[numbers[0]]
    if call == SNAP:
        return snap(heap)
    if call == THINGS:
        return things(heap)
    if call in (WAY, KEEPS):
        return of_thing(heap, call, numbers[1])
    return most(heap, numbers[1])


def handed_over(calls, place):
    """All numbers of the call at a place, behind its own; of write how many bytes there are, too."""
    count = 1 + calls[place + 1] if calls[place] == WRITE else NUMBER_COUNTS[calls[place]]
    return calls[place + 1:place + 1 + count]


def answers(calls):
    """What the calls of a list answer, one behind another on a new house, each with how many numbers ahead of it."""
    house = House()
    answered = []
    place = 0
    while place < len(calls):
        call = calls[place]
        numbers = handed_over(calls, place)
        answer = write(house, numbers[1:]) if call == WRITE else of_snapshot(house, call, numbers)
        answered.extend([len(answer)] + answer)
        place += 1 + len(numbers)
    return answered
