"""[3]: papers and denials."""

import importlib
import inspect
import os
import unittest

from helpers import Case
from typedcurve.arms import Every, Halves, Nowhere
from typedcurve.papers import Denial, Paper, fixed
from typedcurve.poses import Right, Torn
from typedcurve.stands import Off, Stands
from typedcurve.ways import Knot, Way

# All classes of papers of the package, with the names of their parts; those of denials.
KINDS = {
    Right: "", Torn: "kind at", Stands: "places", Off: "by", Halves: "boxes back", Every: "", Nowhere: "",
    Way: "by_a by_b x y", Knot: ""}
DENIALS = (Torn, Off, Nowhere, Knot)
PARTS = [
    [[1, (2, [3])], None, "four", [[]]], [(1, (2, (3,))), True, {"a": [1]}, ((),)], [0, 0.5, b"x", object()],
    [[[[[1]]]], [], (), [([],)]]]


class Note(Paper):
    """A class of papers as the later ones are made."""

    def __init__(self, text, rows):
        Paper.__init__(self, "note", text, rows)
        self.text, self.rows = self.parts


class TestExample(Case):
    def test_note(self):
        note = Paper("note", [1, (2, [3])])
        self.same(
            [note.parts, bool(note), bool(Denial("no")), note == Denial("note", [1, (2, [3])]),
             fixed([[], {"a": [1]}])],
            [((1, (2, (3,))),), True, False, False, ((), {"a": [1]})])


class TestPapers(Case):
    def test_word_and_parts(self):
        paper = Paper("word", 1, "two", None, [3])
        self.same((paper.word, paper.parts), ("word", (1, "two", None, (3,))))
        self.same((Paper("bare").word, Paper("bare").parts), ("bare", ()))
        denial = Denial("off", (1, 2), 0.5)
        self.same((denial.word, denial.parts), ("off", ((1, 2), 0.5)))
        self.same((Denial("no").word, Denial("no").parts), ("no", ()))

    def test_word_by_name(self):
        self.same((Paper(word="word").word, Denial(word="off").word), ("word", "off"))

    def test_truth(self):
        for parts in ((), (0,), (False, None), ([],)):
            self.same(bool(Paper("note", *parts)), True)
            self.same(bool(Denial("note", *parts)), False)
        self.same(bool(Paper("")), True)

    def test_below(self):
        self.assertTrue(issubclass(Denial, Paper))
        self.assertTrue(isinstance(Denial("no"), Paper))
        self.assertFalse(isinstance(Paper("no"), Denial))

    def test_equal(self):
        for kind in (Paper, Denial):
            self.same(kind("a") == kind("a"), True)
            self.same(kind("a") != kind("a"), False)
            self.same(kind("a", 1, [2]) == kind("a", 1, (2,)), True)
            self.same(kind("a", 1) == kind("a", True), True)
            self.same(kind("a", 1) == kind("b", 1), False)
            self.same(kind("a", 1) != kind("b", 1), True)
            self.same(kind("a", 1) == kind("a", 2), False)
            self.same(kind("a", 1, 2) == kind("a", 2, 1), False)
            self.same(kind("a", 1) == kind("a", 1, 1), False)
            self.same(kind("a", (1,)) == kind("a", 1), False)
            self.same(kind("a", {"b": [1]}) == kind("a", {"b": [1]}), True)
            self.same(kind("a", {"b": [1]}) == kind("a", {"b": (1,)}), False)

    def test_just_the_same_class(self):
        self.same(Paper("no") == Denial("no"), False)
        self.same(Denial("no") == Paper("no"), False)
        self.same(Paper("no") != Denial("no"), True)
        note, plain = Note("a", [1]), Paper("note", "a", [1])
        self.same((note.word, note.parts), (plain.word, plain.parts))
        self.same([note == plain, plain == note, note == Note(rows=(1,), text="a")], [False, False, True])

    def test_foreign_class_of_the_same_name(self):
        for kind in (Paper, Denial):
            foreign = type(kind.__name__, (), {"word": "note", "parts": ()})()
            self.same([kind("note") == foreign, foreign == kind("note")], [False, False])

    def test_values_that_are_no_papers(self):
        for value in (None, "note", ("note",), (), 1, True, {}, object(), Paper):
            self.same([Paper("note") == value, value == Paper("note")], [False, False])
            self.same([Denial("note") == value, value == Denial("note")], [False, False])
            self.same(Paper("note") != value, True)

    def test_lists_that_were_passed(self):
        inner, outer = [3], [1]
        outer.append((inner, 2))
        for kind in (Paper, Denial):
            inner[:] = [3]
            paper = kind("note", outer, inner)
            self.same([inner, outer], [[3], [1, ([3], 2)]])
            inner.append(4)
            outer.append(5)
            self.same(paper.parts, ((1, ((3,), 2)), (3,)))
            self.same(paper == kind("note", (1, ((3,), 2)), [3]), True)
            outer.pop()

    def test_class_of_papers(self):
        note = Note("a", [[1], 2])
        self.same([note.word, note.parts, note.text, note.rows, bool(note)],
            ["note", ("a", ((1,), 2)), "a", ((1,), 2), True])


class TestAllPapers(Case):
    def test_words_parts_and_truth(self):
        for kind, names in KINDS.items():
            names = names.split()
            for values in PARTS:
                told = values[:len(names)]
                for paper in (kind(*told), kind(**dict(zip(names, told))), kind(**dict(list(zip(names, told))[::-1]))):
                    self.assertIs(type(paper), kind)
                    self.same((paper.word, paper.parts), (kind.__name__.lower(), fixed(told)))
                    for name, value in zip(names, told):
                        self.same(getattr(paper, name), fixed(value))
                    self.same(bool(paper), kind not in DENIALS)
                    self.same((isinstance(paper, Paper), isinstance(paper, Denial)), (True, kind in DENIALS))

    def test_equal_just_to_one_of_the_same_class_with_equal_parts(self):
        papers = []
        for kind, names in KINDS.items():
            for values in PARTS[:3]:
                papers.append((kind, fixed(values[:len(names.split())]), kind(*values[:len(names.split())])))
        for kind, parts, paper in papers:
            for other_kind, other_parts, other in papers:
                self.same(paper == other, kind is other_kind and parts == other_parts)
                self.same(paper != other, not (kind is other_kind and parts == other_parts))
            for plain in (Paper(paper.word, *parts), Denial(paper.word, *parts), paper.word, parts, None):
                self.same([paper == plain, plain == paper], [False, False])

    def test_what_is_passed_stays(self):
        for kind, names in KINDS.items():
            passed = [[1, [2]] for _ in names.split()]
            paper = kind(*passed)
            for value in passed:
                value[1].append(3)
                value.append(4)
            self.same(paper.parts, ((1, (2,)),) * len(passed))
            self.same(passed, [[1, [2, 3], 4]] * len(passed))

    def test_all_of_the_package(self):
        folder = os.path.dirname(importlib.import_module("typedcurve").__file__)
        found = []
        for name in sorted(os.listdir(folder)):
            if name.endswith(".py"):
                module = importlib.import_module("typedcurve." + name[:-3])
                found += [kind for kind in vars(module).values() if inspect.isclass(kind) and issubclass(kind, Paper)
                    and kind.__module__ == module.__name__]
        self.same({kind.__name__ for kind in found} - {"Paper", "Denial"} == {kind.__name__ for kind in KINDS}, True)


class TestFixed(Case):
    def test_lists_all_the_way_in(self):
        self.same(fixed([]), ())
        self.same(fixed([1, [2, [3, [4]]]]), (1, (2, (3, (4,)))))
        self.same(fixed((1, ([2], (3, [])))), (1, ((2,), (3, ()))))
        self.same(fixed(value=[(1,), [()]]), ((1,), ((),)))

    def test_other_values_stay(self):
        for value in (None, 1, True, "ab", b"ab", 0.5, {"a": [1]}, {1}, object(), [1].append):
            self.assertIs(fixed(value), value)
            self.assertIs(fixed([value])[0], value)

    def test_thirty_deep(self):
        value = 7
        for _ in range(30):
            value = [value]
        for _ in range(30):
            value = fixed(value)
            self.assertIs(type(value), tuple)
            value = value[0]
        self.same(value, 7)


if __name__ == "__main__":
    unittest.main()
