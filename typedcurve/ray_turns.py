"""At which turns the rays of a machine stand, however the frames of its reflectors stand."""

from typedcurve.papers import fixed
from typedcurve.points import point_times
from typedcurve.ratios import QUARTER, product_of, sum_of
from typedcurve.reflectors import corners_by, reflected
from typedcurve.words import DELTA, made_of

BOTH_CROSSED = ("crossed", "crossed")


def turns_of(words, a, b, flips):
    """For each word of a ray its turn; flips tell for some words how their big and small frames stand."""
    turns = {(0, 0, 0): (1, 0), (1, 0, 0): fixed(a), (0, 1, 0): fixed(b), (0, 0, 1): DELTA}
    for word in words:
        x, y = made_of(word)
        turns[word] = turn_by(turns[x], turns[y], flips.get(word, BOTH_CROSSED))
    return turns


def turns_flipped(words, turns, flip):
    """The turns, those of some words and of all that are made of these being found anew with one flip.

    A flip is a word and how its frames stand. All others stay crossed.
    """
    flipped, frames = flip
    anew = {}
    for word in words:
        x, y = made_of(word)
        if word == flipped:
            anew[word] = turn_by(turns[x], turns[y], frames)
        elif x in anew or y in anew:
            anew[word] = turn_by(anew.get(x, turns[x]), anew.get(y, turns[y]), BOTH_CROSSED)
    return {word: anew.get(word, turns[word]) for word in turns}


def turn_by(x, y, frames):
    """The turn of the ray that is made of two others, its big and its small frame standing so."""
    if frames == BOTH_CROSSED:
        return reflected(x, y)
    big, small = frames
    return point_times(corners_by(x, y, big, small)[2], QUARTER)


def sum_by(plan, turns):
    """The constant and each term's number times the cosine of its ray's turn: 0 if the last end is on its line."""
    total = plan.constant
    for word, number in plan.terms:
        total = sum_of(total, product_of(number, turns[word][0]))
    return total
