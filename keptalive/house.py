"""A house: the calls on it, and what they answer."""

from keptalive.looking import look
from keptalive.program import Program
from keptalive.program import read_rows
from keptalive.run import run_program
from keptalive.run import stopped_at
from keptalive.words import rows_of

WRITE = 0

# How many numbers are handed over with each call but write, by the call's number.
NUMBER_COUNTS = {1: 1, 2: 1, 3: 2, 4: 2, 5: 2, 6: 3, 7: 2, 8: 1, 9: 2, 10: 2, 11: 1}

MOST_BYTES = 600
HIGHEST_BYTE = 255

NO_TEXT = -1


class House:
    """What is kept from call to call: the snapshots of the program written last."""

    def __init__(self):
        self.snapshots = []


def write(house, text):
    """Runs the program of a text, unless the text is refused."""
    if len(text) > MOST_BYTES or any([byte > HIGHEST_BYTE for byte in text]):
        return [NO_TEXT]
    program = Program(rows_of(text))
    refusal = read_rows(program)
    if refusal != 0:
        return [refusal]
    run = run_program(program)
    house.snapshots = run.snapshots
    return [len(run.heap.things), run.steps, len(run.snapshots), stopped_at(run)]


def handed_over(calls, place):
    """All numbers of the call at a place, behind its own; of write how many bytes there are, too."""
    count = 1 + calls[place + 1] if calls[place] == WRITE else NUMBER_COUNTS[calls[place]]
    return calls[place + 1:place + 1 + count]


def answers(calls):
    """What the calls of a list answer, one behind another on a new house, each with how many numbers ahead of it."""
    house = House()
    answered = []
    place = 0
    while place < len(calls):
        call = calls[place]
        numbers = handed_over(calls, place)
        answer = write(house, numbers[1:]) if call == WRITE else look(house.snapshots, call, numbers)
        answered.extend([len(answer)] + answer)
        place += 1 + len(numbers)
    return answered
