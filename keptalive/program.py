"""A program read from the rows of its text, or the fault of its first row at fault."""

from keptalive.words import is_name
from keptalive.words import number_of

NO_FAULT = 0
NO_SUCH_ROW = 1
NO_NAME = 2
NOT_TOLD = 3
NOT_NESTED = 4
TOO_MANY = 5

MOST_CLASSES = 5
MOST_VARIABLES = 6
MOST_ROUNDS = 9
DEEPEST = 2

# How many words a row has at the least and at the most, by its first word.
WORD_COUNTS = {
    "class": (3, 5),
    "new": (3, 3),
    "set": (4, 4),
    "get": (4, 4),
    "let": (3, 3),
    "times": (2, 2),
    "end": (1, 1),
    "snap": (1, 1),
}

# The rows whose first word is followed by a variable that gets something.
GETTING = ("new", "get", "let")


class Kind:
    """A class that the text tells: how many bytes its things have, and the names of their fields."""

    def __init__(self, size, fields):
        self.size = size
        self.fields = fields


class Program:
    """The rows of a text, and what those that were read so far told."""

    def __init__(self, rows):
        self.rows = rows
        self.kinds = []
        self.kind_numbers = {}
        self.variables = {}
        # For each times that has its end: the row of the one, then that of the other.
        self.ends = {}
        # The rows of the times that have no end yet, the innermost last.
        self.unended = []


def is_such_row(words):
    """Whether the first word, how many words there are, and BYTES or K are those of some row."""
    first = words[0]
    if first not in WORD_COUNTS:
        return False
    counts = WORD_COUNTS[first]
    if not counts[0] <= len(words) <= counts[1]:
        return False
    if first == "class":
        size = number_of(words[2])
        return size is not None and size > 0
    if first == "times":
        rounds = number_of(words[1])
        return rounds is not None and rounds <= MOST_ROUNDS
    return True


def words_for_names(words):
    """The words of a row that have to be names, whatever was told ahead."""
    first = words[0]
    if first == "class":
        return [words[1]] + words[3:]
    if first == "set":
        return [words[2]]
    if first == "get":
        return [words[1], words[3]]
    if first in GETTING:
        return [words[1]]
    return []


def is_misnamed(program, words):
    """Whether a word that has to be a name is none, or a class or a field has another's name."""
    if not all([is_name(word) for word in words_for_names(words)]):
        return True
    if words[0] != "class":
        return False
    return words[1] in program.kind_numbers or (len(words) == 5 and words[3] == words[4])


def variables_read(words):
    """The words of a row that stand for variables that have to be told ahead."""
    first = words[0]
    if first == "get":
        return [words[2]]
    if first == "let":
        return [] if words[2] == "nil" else [words[2]]
    if first == "set":
        return [words[1]] if words[3] == "nil" else [words[1], words[3]]
    return []


def is_untold(program, words):
    """Whether a class or a variable that had to be told ahead wasn't."""
    if words[0] == "new" and words[2] not in program.kind_numbers:
        return True
    return any([word not in program.variables for word in variables_read(words)])


def is_badly_nested(program, words):
    """Whether a times would be one too deep, or an end belongs to none."""
    if words[0] == "times":
        return len(program.unended) == DEEPEST
    return words[0] == "end" and program.unended == []


def is_one_too_many(program, words):
    """Whether the row would tell a class or a variable for which there is no room."""
    if words[0] == "class":
        return len(program.kinds) == MOST_CLASSES
    if words[0] in GETTING and words[1] not in program.variables:
        return len(program.variables) == MOST_VARIABLES
    return False


def fault_of(program, words):
    """The first fault of a row that has words, with what the rows ahead of it told."""
    if not is_such_row(words):
        return NO_SUCH_ROW
    if is_misnamed(program, words):
        return NO_NAME
    if is_untold(program, words):
        return NOT_TOLD
    if is_badly_nested(program, words):
        return NOT_NESTED
    if is_one_too_many(program, words):
        return TOO_MANY
    return NO_FAULT


def take_row(program, number, words):
    """Puts down what a row without fault tells."""
    first = words[0]
    if first == "class":
        program.kind_numbers[words[1]] = len(program.kinds)
        program.kinds.append(Kind(number_of(words[2]), words[3:]))
    elif first in GETTING and words[1] not in program.variables:
        program.variables[words[1]] = len(program.variables)
    elif first == "times":
        program.unended.append(number)
    elif first == "end":
        program.ends[program.unended.pop()] = number


def fault_number(row, fault):
    """What is answered when a row is at fault."""
    return -1000 - 10 * row - fault


def read_rows(program):
    """Reads the program's rows: 0, or what is answered for the first of them at fault."""
    for number, words in enumerate(program.rows):
        if words != []:
            fault = fault_of(program, words)
            if fault != NO_FAULT:
                return fault_number(number, fault)
            take_row(program, number, words)
    if program.unended != []:
        return fault_number(len(program.rows), NOT_NESTED)
    return 0
