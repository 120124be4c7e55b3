"""A program's run: its rows done in order, until it ends or stops."""

from keptalive.heap import Heap
from keptalive.heap import Thing
from keptalive.heap import snapshot_of
from keptalive.words import number_of

MOST_STEPS = 300
MOST_THINGS = 16
MOST_SNAPSHOTS = 8


class Run:
    """How far a program's run has come."""

    def __init__(self, program):
        self.program = program
        self.heap = Heap(len(program.kinds), [], [None] * len(program.variables))
        self.snapshots = []
        self.steps = 0
        # The row that's come to; at the end of the run the one at which it stopped, or the one behind the last.
        self.row = 0
        # For each times that's being done, the innermost last: its row, and how many rounds are still to be done.
        self.rounds = []


def held_by(run, variable):
    """The number of the thing that a variable holds, or None."""
    return run.heap.variables[run.program.variables[variable]]


def hold(run, variable, held):
    """Lets a variable hold a thing, or None."""
    run.heap.variables[run.program.variables[variable]] = held


def place_of_field(run, number, field):
    """Where a field stands among those of a thing, or None if there's no such thing or field."""
    if number is None:
        return None
    fields = run.program.kinds[run.heap.things[number].kind].fields
    return fields.index(field) if field in fields else None


# Each of these does one row: it gives back the row to go on with, or None if the program stops instead.


def do_new(run, words):
    if len(run.heap.things) == MOST_THINGS:
        return None
    number = run.program.kind_numbers[words[2]]
    kind = run.program.kinds[number]
    hold(run, words[1], len(run.heap.things))
    run.heap.things.append(Thing(number, run.row, kind.size, [None] * len(kind.fields)))
    return run.row + 1


def do_set(run, words):
    number = held_by(run, words[1])
    place = place_of_field(run, number, words[2])
    if place is None:
        return None
    run.heap.things[number].fields[place] = None if words[3] == "nil" else held_by(run, words[3])
    return run.row + 1


def do_get(run, words):
    number = held_by(run, words[2])
    place = place_of_field(run, number, words[3])
    if place is None:
        return None
    hold(run, words[1], run.heap.things[number].fields[place])
    return run.row + 1


def do_let(run, words):
    hold(run, words[1], None if words[2] == "nil" else held_by(run, words[2]))
    return run.row + 1


def do_times(run, words):
    rounds = number_of(words[1])
    if rounds == 0:
        return run.program.ends[run.row] + 1
    run.rounds.append([run.row, rounds])
    return run.row + 1


def do_end(run, words):
    innermost = run.rounds[-1]
    innermost[1] -= 1
    if innermost[1] > 0:
        return innermost[0] + 1
    run.rounds.pop()
    return run.row + 1


def do_snap(run, words):
    if len(run.snapshots) == MOST_SNAPSHOTS:
        return None
    run.snapshots.append(snapshot_of(run.heap))
    return run.row + 1


DEEDS = {
    "new": do_new,
    "set": do_set,
    "get": do_get,
    "let": do_let,
    "times": do_times,
    "end": do_end,
    "snap": do_snap,
}


def row_behind(run):
    """Comes to the run's row: the row to go on with, or None if the program stops at it."""
    words = run.program.rows[run.row]
    if words == [] or words[0] == "class":
        return run.row + 1
    if run.steps == MOST_STEPS:
        return None
    # Coming to a row is a step already, also if the row then isn't done.
    run.steps += 1
    return DEEDS[words[0]](run, words)


def run_program(program):
    """Runs a program: the run as it is at its end."""
    run = Run(program)
    while run.row < len(program.rows):
        behind = row_behind(run)
        if behind is None:
            return run
        run.row = behind
    return run


def stopped_at(run):
    """0, or the number of the row at which an ended run stopped, and one."""
    return run.row + 1 if run.row < len(run.program.rows) else 0
