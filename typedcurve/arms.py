"""Where the second arm can stand while the first one is held."""

from typedcurve.demands import need_above_nothing, need_turn
from typedcurve.errors import Misfit
from typedcurve.lines import roots_of, row_product
from typedcurve.papers import Denial, Paper
from typedcurve.points import point_sum, point_times
from typedcurve.polys import need_poly
from typedcurve.ratios import (
    ascending, difference_of, is_less, product_of, quotient_of, sum_of)
from typedcurve.turns import by_half

STRAIGHT_BACK = (-1, 0)
ROUND_ROW = (1, 0, 1)


class Halves(Paper):
    """The second arm can stand at these halves, and perhaps straight back."""

    def __init__(self, boxes, back):
        Paper.__init__(self, "halves", boxes, back)
        self.boxes, self.back = self.parts


class Every(Paper):
    """The second arm can stand at each turn."""

    def __init__(self):
        Paper.__init__(self, "every")


class Nowhere(Denial):
    """The second arm can stand at no turn."""

    def __init__(self):
        Denial.__init__(self, "nowhere")


def arm_row(poly, radius, turn):
    """The row whose roots are the halves of all second arms by which the pen stands on the curve."""
    _need_held(poly, radius, turn)
    (c, s), r = point_times(turn, radius), radius
    x_row = (sum_of(c, r), 0, difference_of(c, r))
    y_row = (s, product_of(2, r), s)
    x_powers, y_powers = _powers(x_row, poly.degree), _powers(y_row, poly.degree)
    rounds = _powers(ROUND_ROW, poly.degree)
    total = (0,) * (2 * poly.degree + 1)
    for i, j, number in poly.terms:
        letters = row_product(x_powers[i], y_powers[j])
        row = row_product(letters, rounds[poly.degree - i - j])
        total = tuple([sum_of(old, product_of(number, new)) for old, new in zip(total, row)])
    return total


def other_arm(poly, radius, turn, near):
    """At which turns the second arm can stand: Every, Halves or Nowhere."""
    _need_held(poly, radius, turn)
    need_above_nothing(near, "near")
    row = arm_row(poly, radius, turn)
    if is_nothing(row):
        return Every()
    boxes, back = roots_of(row, near), row[-1] == 0
    return Halves(boxes, back) if boxes or back else Nowhere()


def pens_at(poly, radius, turn, near):
    """Boxes of the pen's x and y, for each half, and behind them for straight back."""
    _need_held(poly, radius, turn)
    need_above_nothing(near, "near")
    row = arm_row(poly, radius, turn)
    if is_nothing(row):
        raise Misfit("turn")
    # While a half grows by a small part, x and y grow by no more than 2 times the radius times this part.
    boxes = roots_of(row, quotient_of(near, product_of(2, radius)))
    pens = [_pen_boxes(radius, turn, [by_half(half) for half in _turning_halves(box)]) for box in boxes]
    if row[-1] == 0:
        pens.append(_pen_boxes(radius, turn, [STRAIGHT_BACK]))
    return tuple(pens)


def is_nothing(row):
    """Whether all numbers of a row are 0."""
    return not any([number != 0 for number in row])


def _need_held(poly, radius, turn):
    need_poly(poly, "poly")
    need_above_nothing(radius, "radius")
    need_turn(turn, "turn")


def _powers(row, most):
    powers = [(1,)]
    for _ in range(most):
        powers.append(row_product(powers[-1], row))
    return powers


def _turning_halves(box):
    """The halves in a box at which the pen's x or y can be least or greatest."""
    low, high = box
    return [low, high] + [half for half in (-1, 0, 1) if is_less(low, half) and is_less(half, high)]


def _pen_boxes(radius, turn, others):
    """Boxes of the x and of the y of the pens with some second arms."""
    pens = [point_times(point_sum(turn, other), radius) for other in others]
    boxes = []
    for at in range(2):
        numbers = ascending([pen[at] for pen in pens])
        boxes.append((numbers[0], numbers[-1]))
    return tuple(boxes)
