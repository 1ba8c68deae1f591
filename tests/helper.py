"""Tells calls by name, and what is answered of them as a list for each call."""

from ballscover.words import answers

# Each call's number, and how many numbers are handed to it.
CALLS = {
    "begin": (0, 1), "put": (1, 1), "take": (2, 1), "move": (3, 1), "close": (4, 0), "fill": (5, 1),
    "words": (6, 0), "ball": (7, 1), "hits": (8, 2), "times": (9, 1), "covers": (10, 1), "apart": (11, 1),
    "fills": (12, 1), "evenly": (13, 1), "round": (14, 2), "zeros": (15, 1), "in_the_way": (16, 1),
    "radius": (17, 0), "reach": (18, 0), "uncovered": (19, 1), "mend": (20, 1), "cover": (21, 1),
    "needed": (22, 1), "told": (23, 0),
}

BIGGEST = 2147483647


def told(text):
    """The numbers of calls like "begin 3; put 5; words"."""
    numbers = []
    for call in text.split(";"):
        name, *handed = call.split()
        number, count = CALLS[name]
        if len(handed) != count:
            raise ValueError(f"{name} is handed {count} numbers, not {len(handed)}")
        numbers += [number] + [int(value) for value in handed]
    return numbers


def apart_by_call(given):
    """The answers, a list for each call, of the list that is given back."""
    if not isinstance(given, list) or not all(type(value) is int for value in given):
        raise ValueError(f"not a list of whole numbers: {given!r}")
    found = []
    at = 0
    while at < len(given):
        behind = at + 1 + given[at]
        if given[at] < 1 or behind > len(given):
            raise ValueError(f"a wrong count at {at}: {given!r}")
        found.append(given[at + 1:behind])
        at = behind
    return found


def run(text):
    """What is answered of each of the calls."""
    found = apart_by_call(answers(told(text)))
    if len(found) != len(text.split(";")):
        raise ValueError(f"{len(found)} answers to {text!r}")
    return found


def last(text):
    """What is answered of the last of the calls."""
    return run(text)[-1]


def with_words(bits, there):
    """Calls that begin with so many bits and put in these words."""
    return "; ".join([f"begin {bits}"] + [f"put {word}" for word in there])
