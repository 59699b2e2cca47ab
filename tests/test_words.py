"""[10]: words, of which others they are made, and their turns."""

import time
import unittest
from itertools import product
from random import Random

from helpers import NO_TURNS, NO_WORDS, Case, number, some_turns, turn_times
from typedcurve.errors import BadTurn, BadWord
from typedcurve.turns import added, back_turn, by_half
from typedcurve.words import is_word, made_of, steps, word_turn

FIRST = [(0, 0, 0), (1, 0, 0), (0, 1, 0), (0, 0, 1)]
SOME_NUMBERS = [0, 1, -1, 2, -2, 3, -3, 4, -4, 5, 6, -7, 12, 16, -22, 23, -23, 24, -24]


def words_of(numbers):
    """All words of some numbers."""
    return [word for word in product(numbers, repeat=3) if sum(part % 2 for part in word) < 2]


def naive_steps(words):
    """The steps, told just as the document does."""
    there = []

    def go_to(word):
        if word in FIRST or word in there:
            return
        for needed in made_of(word):
            go_to(needed)
        there.append(word)

    for word in words:
        go_to(tuple(word))
    return tuple(there)


class TestExamples(Case):
    def test_is_word(self):
        self.same(
            [is_word((2, -4, 1)), is_word([0, 0, 0]), is_word((1, 1, 0)), is_word((26, 0, 0)), is_word((2, 0)),
             is_word((True, 0, 0))],
            [True, True, False, False, False, False])

    def test_made_of(self):
        self.same(
            [made_of((0, 0, 1)), made_of((6, 0, 0)), made_of((0, 5, 0)), made_of((0, 0, -2)), made_of((1, -4, 2)),
             made_of((2, -1, 0))],
            [None, ((3, 0, 0), (0, 0, 0)), ((0, 3, 0), (0, 1, 0)), ((0, 0, 0), (0, 0, 2)), ((0, -2, 0), (-1, 0, -2)),
             ((1, 0, 0), (0, 1, 0))])
        self.refuses(BadWord("word"), made_of, (1, 1, 0))

    def test_steps(self):
        self.same(steps([(2, 0, 2), (3, 0, 0)]), ((0, 0, 2), (0, 0, -2), (2, 0, 2), (2, 0, 0), (3, 0, 0)))
        self.same(
            [steps([(1, 0, 0)]), word_turn((2, -1, 0), ((3, 5), (4, 5)), (0, 1)), word_turn((0, 0, 2), (1, 0), (1, 0))],
            [(), ((24, 25), (7, 25)), ((7, 25), (24, 25))])


class TestIsWord(Case):
    def test_all_small_triples(self):
        for word in product(range(-4, 5), repeat=3):
            self.same(is_word(word), sum(part % 2 for part in word) < 2)
            self.same(is_word(list(word)), is_word(word))

    def test_bounds(self):
        for at in range(3):
            for part in range(-30, 31):
                word = [0, 0, 0]
                word[at] = part
                self.same(is_word(word), -24 <= part <= 24)
        self.same([is_word((24, -24, 24)), is_word((24, 23, -24)), is_word(value=(-23, 24, 0))], [True] * 3)

    def test_other_values(self):
        for bad in NO_WORDS:
            self.same(is_word(bad), False)


class TestMadeOf(Case):
    def test_first_words(self):
        for word in FIRST:
            self.same([made_of(word), made_of(list(word))], [None, None])

    def test_one_number(self):
        for at in range(3):
            for k in range(-24, 25):
                word = tuple(k if place == at else 0 for place in range(3))
                if word in FIRST:
                    continue
                if k < 0:
                    wanted = 0, -k
                elif k % 2 == 0:
                    wanted = k // 2, 0
                else:
                    wanted = (k + 1) // 2, 1
                self.same(made_of(word), tuple(
                    tuple(part if place == at else 0 for place in range(3)) for part in wanted))

    def test_two_and_three_numbers(self):
        for word, x, y in (
                ((2, 4, 0), (1, 0, 0), (0, -4, 0)), ((1, 4, 0), (0, 2, 0), (-1, 0, 0)),
                ((-1, 0, 4), (0, 0, 2), (1, 0, 0)),
                ((-2, 1, 0), (-1, 0, 0), (0, -1, 0)), ((0, -6, 5), (0, -3, 0), (0, 0, -5)),
                ((0, 3, 2), (0, 0, 1), (0, -3, 0)),
                ((2, -4, 6), (1, 0, 0), (0, 4, -6)), ((3, -4, 6), (0, -2, 0), (-3, 0, -6)),
                ((4, 5, -6), (2, 0, 0), (0, -5, 6)),
                ((-24, 24, -23), (-12, 0, 0), (0, -24, 23))):
            self.same(made_of(word=word), (x, y))
            self.same(made_of(list(word)), (x, y))

    def test_each_word_is_2_x_less_y(self):
        for word in words_of(SOME_NUMBERS):
            if word in FIRST:
                continue
            x, y = made_of(word)
            self.same([is_word(x), is_word(y)], [True, True])
            self.same(tuple(2 * p - q for p, q in zip(x, y)), word)


class TestSteps(Case):
    def test_no_words(self):
        self.same([steps([]), steps(()), steps(FIRST), steps([[0, 0, 0]])], [(), (), (), ()])

    def test_just_as_told(self):
        random = Random(4)
        everything = words_of(SOME_NUMBERS)
        for many in (1, 2, 5, 30):
            for _ in range(20):
                words = [random.choice(everything) for _ in range(many)]
                self.same(steps(words), naive_steps(words))

    def test_each_word_behind_what_it_needs(self):
        for word in words_of(SOME_NUMBERS):
            found = steps([word])
            self.same(len(set(found)), len(found))
            there = set(FIRST)
            for step in found:
                self.assertTrue(step not in there and there.issuperset(made_of(step)), (word, step))
                there.add(step)
            self.same(word in there, True)
            self.same(found[-1:], () if word in FIRST else (word,))

    def test_words_met_twice(self):
        words = [(2, 0, 2), [2, 0, 2], (0, 0, -2), (1, 0, 0), (0, 0, 2), (2, 0, 2)]
        self.same(steps(words=words), ((0, 0, 2), (0, 0, -2), (2, 0, 2)))
        self.same(steps([(0, 0, 2), (2, 0, 2)]), ((0, 0, 2), (0, 0, -2), (2, 0, 2)))
        self.same(steps([(6, 0, 0), (3, 0, 0), (5, 0, 0)]), ((2, 0, 0), (3, 0, 0), (6, 0, 0), (5, 0, 0)))
        self.same(words[1], [2, 0, 2])

    def test_all_words_in_a_short_time(self):
        start = time.perf_counter()
        words = words_of(range(-24, 25))
        self.same(sorted(steps(words) + tuple(FIRST)), sorted(words))
        self.assertLess(time.perf_counter() - start, 10)

    def test_errors(self):
        for bad in (None, True, 0, "", "abc", {}, {(2, 0, 0): 1}, {(2, 0, 0)}, 0.5, object(), (2, 0, 0)):
            self.refuses(BadWord("words"), steps, bad)
        for bad in NO_WORDS:
            self.refuses(BadWord("words"), steps, [bad])
            self.refuses(BadWord("words"), steps, ((2, 0, 0), bad, (0, 2, 0)))


class TestTurns(Case):
    def test_added_one_by_one(self):
        delta = ((4, 5), (3, 5))
        turns = some_turns()
        for word in words_of([0, 1, -1, 2, -3, 4, 24, -24]):
            a, b = turns[sum(word) % 10], turns[(word[0] * 3 + word[2]) % 10]
            total = (1, 0)
            for turn, many in ((a, word[0]), (b, word[1]), (delta, word[2])):
                for _ in range(abs(many)):
                    total = added(total, turn if many > 0 else back_turn(turn))
            self.same(word_turn(word, a, b), total)

    def test_each_number(self):
        for turn in some_turns()[:6]:
            for many in (-24, -7, 1, 24):
                wanted = tuple(number(part) for part in turn_times(turn, many))
                self.same(word_turn((many, 0, 0), turn, (0, 1)), wanted)
                self.same(word_turn([0, many, 0], a=(0, 1), b=turn), wanted)
        self.same(word_turn((0, 0, 1), (0, 1), (0, 1)), ((4, 5), (3, 5)))
        self.same(word_turn(b=[0, 1], a=[[3, 5], [4, 5]], word=(1, 0, 0)), ((3, 5), (4, 5)))

    def test_reflected(self):
        a, b = by_half((2, 7)), by_half((-3, 5))
        for word in words_of([0, 1, -2, 3, -4, 6]):
            if word not in FIRST:
                x, y = [word_turn(part, a, b) for part in made_of(word)]
                self.same(word_turn(word, a, b), added(added(x, x), back_turn(y)))

    def test_errors(self):
        for bad in NO_WORDS:
            self.refuses(BadWord("word"), made_of, bad)
            self.refuses(BadWord("word"), word_turn, bad, None, None)
        for bad in NO_TURNS:
            self.refuses(BadTurn("a"), word_turn, (2, 0, 0), bad, bad)
            self.refuses(BadTurn("b"), word_turn, (2, 0, 0), (1, 0), bad)


if __name__ == "__main__":
    unittest.main()
