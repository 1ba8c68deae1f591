"""The calls on one object, told as whole numbers, and what is answered of them."""

from ballscover.balls import apart_reach, ball_size, balls_apart, balls_cover, balls_fill, covering_radius
from ballscover.balls import hit_count, hit_counts, needed_words, words_by_hits, words_hit
from ballscover.bits import distance, word_count
from ballscover.choices import greedy_cover, nearest_words
from ballscover.growth import closed, filled
from ballscover.signs import places_in_the_way, round_sum, round_zeros

MOST_BITS = 6


class State:
    """One object: how many bits its words have, and the words there are, rising."""

    def __init__(self):
        # No begin that is answered 0 leaves 0 bits, so they stand for not begun.
        self.bits = 0
        self.there = []


def counted(found):
    """How many there are, then these."""
    return [len(found)] + found


def begin(state, handed):
    """So many bits, and no words."""
    state.bits = handed[0]
    state.there = []
    return [0]


def put(state, handed):
    """A word is put in, if it is not there."""
    if handed[0] in state.there:
        return [-17]
    state.there = sorted(state.there + [handed[0]])
    return [len(state.there)]


def take(state, handed):
    """A word is taken out, if it is there."""
    if handed[0] not in state.there:
        return [-2]
    state.there = [word for word in state.there if word != handed[0]]
    return [len(state.there)]


def move(state, handed):
    """Each word becomes both together, it and the one handed over."""
    state.there = sorted([word ^ handed[0] for word in state.there])
    return [0]


def close(state, handed):
    """Two words together are put in till all such are there."""
    state.there = closed(state.there)
    return [len(state.there)]


def fill(state, handed):
    """Words are put in, each that is farther than twice r from all."""
    state.there = filled(state.bits, state.there, handed[0])
    return [len(state.there)]


def words(state, handed):
    """How many words there are, then they, rising."""
    return counted(state.there)


def ball(state, handed):
    """How many words a ball has."""
    return [ball_size(state.bits, handed[0])]


def hits(state, handed):
    """How often a word is hit."""
    return [hit_count(state.there, handed[0], handed[1])]


def times(state, handed):
    """One more than there are words, then how many words are hit 0 times, once and so on."""
    return counted(words_by_hits(state.bits, state.there, handed[0]))


def covers(state, handed):
    """1 if the balls cover, else 0."""
    return [1 if balls_cover(state.bits, state.there, handed[0]) else 0]


def apart(state, handed):
    """1 if the balls are apart, else 0."""
    return [1 if balls_apart(state.bits, state.there, handed[0]) else 0]


def fills(state, handed):
    """1 if the balls fill, else 0."""
    return [1 if balls_fill(state.bits, state.there, handed[0]) else 0]


def evenly(state, handed):
    """How often each word is hit, if that is equally often."""
    counts = hit_counts(state.bits, state.there, handed[0])
    if min(counts) != max(counts):
        return [-33]
    return [counts[0]]


def round_of(state, handed):
    """0, then the round sum."""
    return [0, round_sum(state.bits, handed[0], handed[1])]


def zeros(state, handed):
    """At how many numbers from 1 to the bits the round sum is 0, then these, rising."""
    return counted(round_zeros(state.bits, handed[0]))


def in_the_way(state, handed):
    """How many sets of places are in the way, then these, rising."""
    return counted(places_in_the_way(state.bits, state.there, handed[0]))


def radius(state, handed):
    """The least r so that the balls cover, if there are words."""
    if state.there == []:
        return [-6]
    return [covering_radius(state.bits, state.there)]


def reach(state, handed):
    """The greatest r, up to the bits, so that the balls are apart."""
    return [apart_reach(state.bits, state.there)]


def uncovered(state, handed):
    """How many words are not hit, then these, rising."""
    return counted(words_hit(state.bits, state.there, handed[0], 0))


def mend(state, handed):
    """The first of the nearest words, its distance, and how many are as near, if there are words."""
    if state.there == []:
        return [-6]
    near = nearest_words(state.there, handed[0])
    return [near[0], distance(near[0], handed[0]), len(near)]


def cover(state, handed):
    """How many words the cover taken greedily has, then these, as they are taken."""
    return counted(greedy_cover(state.bits, handed[0]))


def needed(state, handed):
    """How many words there are without which the balls would not cover, then these, rising, if they do."""
    if not balls_cover(state.bits, state.there, handed[0]):
        return [-33]
    return counted(needed_words(state.bits, state.there, handed[0]))


def told(state, handed):
    """How many bits, then how many words there are."""
    return [state.bits, len(state.there)]


# What is handed to each call, by its number, a letter for each number handed over:
# b how many bits, x a word, r how far balls reach, i how many places.
HANDED = (
    "b", "x", "x", "x", "", "r", "", "r", "rx", "r", "r", "r",
    "r", "r", "ri", "r", "r", "", "", "r", "x", "r", "r", "",
)

CALLED = (
    begin, put, take, move, close, fill, words, ball, hits, times, covers, apart,
    fills, evenly, round_of, zeros, in_the_way, radius, reach, uncovered, mend, cover, needed, told,
)


def is_wrong(bits, letter, value):
    """Whether a number handed over is one that is refused with -22."""
    if letter == "b":
        return value < 1 or value > MOST_BITS
    if letter == "x":
        return value >= word_count(bits)
    return value > bits


def any_wrong(bits, letters, handed):
    """Whether one of the numbers handed over is refused with -22."""
    return any([is_wrong(bits, letter, value) for letter, value in zip(letters, handed)])


def answer(state, number, handed):
    """What is answered of one call: its refusal alone, or all its numbers."""
    if number != 0 and state.bits == 0:
        return [-61]
    if any_wrong(state.bits, HANDED[number], handed):
        return [-22]
    called = CALLED[number]
    return called(state, handed)


def answers(calls):
    """Of each call, in order: how many numbers are answered, then these."""
    state = State()
    given = []
    at = 0
    while at < len(calls):
        number = calls[at]
        behind = at + 1 + len(HANDED[number])
        answered = answer(state, number, calls[at + 1:behind])
        given.append(len(answered))
        given.extend(answered)
        at = behind
    return given
