"""Plans: the terms, the reach and the words of the machine of a polynomial, and how great it is."""

from typedcurve.ratios import size_of, sum_of
from typedcurve.waves import cosines, waves_of
from typedcurve.words import steps

ARM_WORDS = ((2, 0, 0), (0, 2, 0))


class Plan:
    """What a machine is made of: f at the pen is the constant and each number times a word's cosine."""

    def __init__(self, poly, radius):
        waves = waves_of(poly, radius)
        self.constant = waves.constant
        self.terms = cosines(waves)
        self.words = steps(ARM_WORDS + tuple([word for word, _ in self.terms]))
        self.reach = 0
        for _, number in self.terms:
            self.reach = sum_of(self.reach, size_of(number))


def terms_for(poly, radius):
    """The terms of a polynomial: pairs of a word and a number."""
    return Plan(poly, radius).terms


def reach_for(poly, radius):
    """The numbers of all terms, without their signs."""
    return Plan(poly, radius).reach


def words_for(poly, radius):
    """The words of all reflectors, in order."""
    return Plan(poly, radius).words


def count_for(poly, radius):
    """How many joints and how many bars the machine has."""
    return counts(Plan(poly, radius))


def counts(plan):
    """How many joints and how many bars the machine of a plan has."""
    joints, bars = 27 + 12 * len(plan.words), 14 + 12 * len(plan.words)
    if plan.terms:
        joints, bars = joints + 8 * len(plan.terms) - 7, bars + 8 * len(plan.terms) - 8
    return joints, bars
