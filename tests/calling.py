"""Calls put into the form of the interface, and what they answer taken out of it."""

from keptalive.house import answers


def write(text):
    numbers = list(text.encode("latin-1")) if isinstance(text, str) else list(text)
    return [0, len(numbers)] + numbers


def snap(s):
    return [1, s]


def things(s):
    return [2, s]


def way(s, o):
    return [3, s, o]


def keeps(s, o):
    return [4, s, o]


def most(s, n):
    return [5, s, n]


def cut(s, begins, which):
    return [6, s, begins, which]


def fewest(s, o):
    return [7, s, o]


def never(s):
    return [8, s]


def new(s, t):
    return [9, s, t]


def grows(s, t):
    return [10, s, t]


def classes(s):
    return [11, s]


def taken_apart(answered):
    """The list that answers gives back, as one list a call."""
    apart = []
    place = 0
    while place < len(answered):
        behind = place + 1 + answered[place]
        assert behind <= len(answered), answered
        apart.append(answered[place + 1:behind])
        place = behind
    return apart


def ask(*calls):
    """What each of the calls answers, on one new house."""
    answered = answers([number for call in calls for number in call])
    assert type(answered) is list and all(type(number) is int for number in answered), answered
    apart = taken_apart(answered)
    assert len(apart) == len(calls), answered
    return apart


def written(*rows):
    """What write answers of a text of these rows."""
    return ask(write("\n".join(rows)))[0]


def looked(rows, *calls):
    """What calls answer behind a write of these rows, which has to be taken."""
    answered = ask(write("\n".join(rows)), *calls)
    assert answered[0][0] >= 0, answered
    return answered[1:]
