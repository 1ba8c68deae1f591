"""Tells calls by name, and what is answered of them as a list for each call; and sets of words to try."""

import itertools

from ballscover.words import answers

# Each call's number, and how many numbers are handed to it.
CALLS = {
    "begin": (0, 1), "put": (1, 1), "take": (2, 1), "move": (3, 1), "close": (4, 0), "fill": (5, 1),
    "words": (6, 0), "ball": (7, 1), "hits": (8, 2), "times": (9, 1), "covers": (10, 1), "apart": (11, 1),
    "fills": (12, 1), "evenly": (13, 1), "round": (14, 2), "zeros": (15, 1), "in_the_way": (16, 1),
    "radius": (17, 0), "reach": (18, 0), "uncovered": (19, 1), "mend": (20, 1), "cover": (21, 1),
    "needed": (22, 1), "told": (23, 0),
}

BIGGEST = 2147483647


def told(text):
    """The numbers of calls like "begin 3; put 5; words"."""
    numbers = []
    for call in text.split(";"):
        name, *handed = call.split()
        number, count = CALLS[name]
        if len(handed) != count:
            raise ValueError(f"{name} is handed {count} numbers, not {len(handed)}")
        numbers += [number] + [int(value) for value in handed]
    if len(text.split(";")) > 60 or len(numbers) > 180:
        raise ValueError(f"more calls or numbers than may be handed in: {text!r}")
    return numbers


def apart_by_call(given):
    """The answers, a list for each call, of the list that is given back."""
    if not isinstance(given, list) or not all(type(value) is int for value in given):
        raise ValueError(f"not a list of whole numbers: {given!r}")
    found = []
    at = 0
    while at < len(given):
        behind = at + 1 + given[at]
        if given[at] < 1 or behind > len(given):
            raise ValueError(f"a wrong count at {at}: {given!r}")
        found.append(given[at + 1:behind])
        at = behind
    return found


def run(text):
    """What is answered of each of the calls."""
    found = apart_by_call(answers(told(text)))
    if len(found) != len(text.split(";")):
        raise ValueError(f"{len(found)} answers to {text!r}")
    return found


def last(text):
    """What is answered of the last of the calls."""
    return run(text)[-1]


def with_words(bits, there):
    """Calls that begin with so many bits and put in these words."""
    return "; ".join([f"begin {bits}"] + [f"put {word}" for word in there])


def setting(bits, there):
    """Calls that begin with so many bits and leave these words there; at most 34 calls."""
    if 2 * len(there) <= 2 ** bits:
        return with_words(bits, there)
    left_out = [word for word in range(2 ** bits) if word not in there]
    return "; ".join([f"begin {bits}", "fill 0"] + [f"take {word}" for word in left_out])


def looked(bits, there, looks):
    """What is answered of calls that look, in as many lines as they need, with these words there."""
    found = []
    for first in range(0, len(looks), 25):
        part = looks[first:first + 25]
        found += run("; ".join([setting(bits, there)] + part))[-len(part):]
    return found


def subsets(bits):
    for chosen in itertools.product((False, True), repeat=2 ** bits):
        yield [word for word in range(2 ** bits) if chosen[word]]


def chosen_sets(bits):
    """Sets of words with something to them, and sets that are spread by a fixed rule."""
    every = range(2 ** bits)
    top = 2 ** bits - 1
    yield []
    yield [5]
    yield list(every)
    yield [0, top]
    yield [0, top - 1]
    yield sorted([10, top - 10])
    yield [0, 1, top - 1, top]
    yield list(range(2 ** (bits - 1)))
    yield [word for word in every if word.bit_count() % 2 == 0]
    yield [word for word in every if word.bit_count() % 2 == 1 and word != 1]
    yield [word for word in every if word.bit_count() <= 2]
    yield [word for word in every if word != 6]
    yield [0, 7, 9, 14]
    yield [word for word in (0, 7, 25, 30, 42, 45, 51, 52) if word <= top]
    for step in range(1, 24):
        yield sorted({(step * step * k + 7 * k + step) % 2 ** bits for k in range(step % 11 + 1)})


def some_sets():
    """All sets of up to 3 bits, and chosen sets of more."""
    for bits in (1, 2, 3):
        for there in subsets(bits):
            yield bits, there
    for bits in (4, 5, 6):
        for there in chosen_sets(bits):
            yield bits, there
