"""Words: angles that whole numbers make of two turns and of delta, and of which others they are made."""

from typedcurve.checks import is_list, is_within
from typedcurve.demands import need_turn
from typedcurve.errors import BadWord
from typedcurve.turns import added, multiplied

MOST_NUMBER = 24
DELTA = ((4, 5), (3, 5))
FIRST_WORDS = ((0, 0, 0), (1, 0, 0), (0, 1, 0), (0, 0, 1))


def is_word(value):
    """Whether any value is a word."""
    if not is_list(value) or len(value) != 3:
        return False
    if not all([is_within(number, -MOST_NUMBER, MOST_NUMBER) for number in value]):
        return False
    return len([number for number in value if number % 2 == 1]) < 2


def made_of(word):
    """The pair of the words of which a word is made, None for a first word."""
    _need_word(word)
    if tuple(word) in FIRST_WORDS:
        return None
    places = [at for at in range(3) if word[at] != 0]
    if len(places) == 1:
        x, y = _parts_of_one(word[places[0]])
        return _word_at(places[0], x), _word_at(places[0], y)
    at = [place for place in places if word[place] % 2 == 0][0]
    rest = [-number for number in word]
    rest[at] = 0
    return _word_at(at, word[at] // 2), tuple(rest)


def steps(words):
    """The words that a list of words needs, each behind those of which it is made."""
    if not is_list(words) or not all([is_word(word) for word in words]):
        raise BadWord("words")
    found = {}
    for word in words:
        _put_down(tuple(word), found)
    return tuple(found)


def word_turn(word, a, b):
    """The turn of a word by a and b."""
    _need_word(word)
    need_turn(a, "a")
    need_turn(b, "b")
    p, q, times_delta = word
    return added(added(multiplied(a, p), multiplied(b, q)), multiplied(DELTA, times_delta))


def _need_word(value):
    if not is_word(value):
        raise BadWord("word")


def _parts_of_one(number):
    """Two numbers x and y, so that the number is 2 x - y."""
    if number < 0:
        return 0, -number
    if number % 2 == 0:
        return number // 2, 0
    return (number + 1) // 2, 1


def _word_at(at, number):
    """The word with a number in one place, and 0 in the others."""
    numbers = [0, 0, 0]
    numbers[at] = number
    return tuple(numbers)


def _put_down(word, found):
    """Puts a word into what was found, behind all that it needs."""
    if word in FIRST_WORDS or word in found:
        return
    x, y = made_of(word)
    _put_down(x, found)
    _put_down(y, found)
    found[word] = True
