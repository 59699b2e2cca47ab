"""A desk, which is told lines and answers them."""

from typedcurve.arms import arm_row, is_nothing
from typedcurve.builds import machine_for
from typedcurve.desk_lines import line_told
from typedcurve.errors import BadLine, Misfit, TooMany
from typedcurve.lines import count_roots
from typedcurve.machines import cut_list
from typedcurve.numbers import number_text
from typedcurve.plans import count_for
from typedcurve.poly_texts import poly_text
from typedcurve.polys import value
from typedcurve.sketches import sketch
from typedcurve.stands import pen_at
from typedcurve.turns import by_half
from typedcurve.ways import way_at

DEEDS = ("curve", "radius", "stand")
NEED_NO_CURVE = ("curve", "radius", "pen")
NEED_ARMS = ("pen", "off", "way")


class Desk:
    """Keeps a curve, a radius and two arms, and the log of the deeds by which they came."""

    def __init__(self):
        self.curve = None
        self.radius = 1
        self.arms = None
        self.log = ()
        # What was kept ahead of each deed of the log.
        self._before = []

    def __eq__(self, other):
        return isinstance(other, Desk) and self.log == other.log

    def told(self, line):
        """Tells the desk any value as a line; the answer."""
        try:
            word, given = line_told(line)
            if self.curve is None and word not in NEED_NO_CURVE:
                raise Misfit("curve")
            if self.arms is None and word in NEED_ARMS:
                raise Misfit("arms")
            answer = answer_to(self, word, given)
        except Misfit as misfit:
            raise BadLine(Misfit(misfit.part))
        except TooMany as excess:
            raise BadLine(TooMany(excess.what, excess.most))
        if word in DEEDS:
            self._do(word, given, line)
        return answer

    def back(self):
        """Takes back the last deed; its line."""
        if not self.log:
            raise Misfit("log")
        line = self.log[-1]
        self.log = self.log[:-1]
        self.curve, self.radius, self.arms = self._before.pop()
        return line

    def twin(self):
        """A second desk with an equal log."""
        other = Desk()
        other.curve, other.radius, other.arms = self.curve, self.radius, self.arms
        other.log = self.log
        other._before = list(self._before)
        return other

    def _do(self, word, given, line):
        self._before.append((self.curve, self.radius, self.arms))
        self.log = self.log + (line,)
        if word == "curve":
            self.curve = given[0]
        elif word == "radius":
            self.radius = given[0]
        else:
            self.arms = _arms_by(given)


def answer_to(desk, word, given):
    """The answer of a desk that has what a line needs."""
    if word == "curve":
        return poly_text(given[0])
    if word == "radius":
        return "-"
    if word == "stand":
        return "yes" if _value_at_pen(desk, _arms_by(given)) == 0 else "no"
    if word == "count":
        joints, bars = count_for(desk.curve, desk.radius)
        return f"{joints} {bars}"
    if word == "cut":
        rows = cut_list(machine_for(desk.curve, desk.radius))
        return " , ".join([f"{number_text(length)} {many}" for length, many in rows])
    if word == "pen":
        return _texts(_pen(desk, desk.arms))
    if word == "off":
        return number_text(_value_at_pen(desk, desk.arms))
    if word == "way":
        way = way_at(desk.curve, desk.radius, desk.arms[0], desk.arms[1])
        return _texts(way.parts) if way else "knot"
    if word == "arm":
        return _many_arms(desk, by_half(given[0]))
    return "|".join(sketch(desk.curve, desk.radius, given[0]))


def _arms_by(halves):
    return by_half(halves[0]), by_half(halves[1])


def _pen(desk, arms):
    return pen_at(desk.radius, arms[0], arms[1])


def _value_at_pen(desk, arms):
    return value(desk.curve, _pen(desk, arms))


def _many_arms(desk, turn):
    """How many turns of the second arm there are, the first one being held at a turn."""
    row = arm_row(desk.curve, desk.radius, turn)
    if is_nothing(row):
        return "all"
    many = count_roots(row, None, None)
    return str(many + 1 if row[-1] == 0 else many)


def _texts(numbers):
    return " ".join([number_text(number) for number in numbers])
