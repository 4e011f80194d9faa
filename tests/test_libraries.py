"""Libraries: rows of changes against a model, wishes that hold behind each of them, errors and trials."""

import random
import sys
import unittest

from swapkinds.errors import Broken, InUse, InvalidIndex, InvalidName, InvalidWish, NothingToUndo, NotYard, UnknownName
from swapkinds.libraries import Library
from swapkinds.mends import kept
from swapkinds.orders import least_swaps
from swapkinds.rings import most_rings
from swapkinds.turns import least_moves
from swapkinds.yards import Yard
from tests.samples import MOST, NO_WISHES, Raising, hall, values_of_all_kinds
from tests.searches import drawn_yards, great_yards

CALM = Yard(("x", "y"), ((5, 0), (0, 5)))
PAIR = Yard(("x", "y"), ((5, 3), (3, 5)))
NO_NAMES = values_of_all_kinds() + ["A", "1a", "a" * 9, "a b", "a-b", "a\n", "", ("a",), b"all", 5]
UNKNOWN = values_of_all_kinds() + ["al", "all ", "All", "alll", "a", ("all",), ["all"], b"all", {"all": 1}, 5, {"all"}]
NO_YARDS = values_of_all_kinds() + [str(hall()), hall().rows, (hall(),), 5]


class Stopped(Exception):
    """An error that the package does not know."""


class Model:
    """What a library does, told by whole pictures of it: its yards, its wishes, and how many changes came before."""

    def __init__(self):
        self.pictures = [({}, ())]

    def yards(self):
        return self.pictures[-1][0]

    def wishes(self):
        return self.pictures[-1][1]

    def change(self, yards, wishes):
        self.pictures.append((yards, wishes))

    def broken(self, yards, wishes):
        """The index of the first wish that does not hold; None if all hold."""
        return next((at for at, (name, wish) in enumerate(wishes) if not kept(yards[name], wish)), None)


class Showing(Raising):
    def shown(self, library, model):
        """All that a library shows, and that all wishes hold."""
        yards, wishes = model.pictures[-1]
        self.assertEqual((library.names, type(library.names)), (tuple(sorted(yards)), tuple))
        self.assertEqual((library.wishes, type(library.wishes)), (wishes, tuple))
        self.assertEqual((library.changes, len(library)), (len(model.pictures) - 1, len(yards)))
        self.assertIs(bool(library), True)
        for name, yard in yards.items():
            self.assertIs(library[name], yard)
            self.assertIs(name in library, True)
        for name in ("all", "b", "c3", "other"):
            self.assertIs(name in library, name in yards)
        for name, wish in library.wishes:
            self.assertIs(kept(library[name], wish), True)

    def taken_back(self, library, model):
        """Takes all back, looking at each picture on the way."""
        while len(model.pictures) > 1:
            self.assertIsNone(library.undo())
            model.pictures.pop()
            self.shown(library, model)
        with self.assertRaises(NothingToUndo):
            library.undo()
        self.shown(library, model)


def measures(yard):
    return {"swaps": least_swaps(yard), "moves": least_moves(yard), "rings": most_rings(yard), "out": yard.out()}


class Rows(Showing):
    def test_example(self):
        library = Library()
        library["all"] = hall()
        self.assertIsNone(library.wish("all", ("swaps", 13)))
        self.assertEqual([library.names, library.wishes, library.changes, "all" in library],
                         [("all",), (("all", ("swaps", 13)),), 2, True])
        with self.assertRaises(Broken) as caught:
            library["all"] = hall() + hall()
        self.assertEqual(caught.exception.index, 0)
        self.assertEqual((library["all"], library.changes), (hall(), 2))

    def test_against_a_model(self):
        draw = random.Random(110)
        sample = [hall(), CALM, PAIR, *drawn_yards(111, 10), *great_yards(112, 3)]
        many = {}
        for _ in range(80):
            library, model = Library(), Model()
            self.shown(library, model)
            for _ in range(60):
                done = self.step(library, model, draw, sample)
                many[done] = many.get(done, 0) + 1
                self.shown(library, model)
            self.taken_back(library, model)
        for done in ("put", "put Broken", "remove", "remove InUse", "remove UnknownName", "wish", "wish Broken",
                     "wish UnknownName", "lift", "lift InvalidIndex", "undo", "undo NothingToUndo"):
            self.assertGreater(many.get(done, 0), 10, many)

    def step(self, library, model, draw, sample):
        """One change of the library and the model: what it was."""
        word = draw.choice(("put", "put", "put", "remove", "wish", "wish", "wish", "lift", "undo"))
        name = draw.choice(("all", "b", "c3"))
        if word == "put":
            return self.put(library, model, name, draw.choice(sample))
        if word == "remove":
            return self.remove(library, model, name)
        if word == "wish":
            return self.wish(library, model, name, draw)
        if word == "lift":
            return self.lift(library, model, draw.randint(-1, len(model.wishes())))
        if len(model.pictures) == 1:
            with self.assertRaises(NothingToUndo):
                library.undo()
            return "undo NothingToUndo"
        self.assertIsNone(library.undo())
        model.pictures.pop()
        return "undo"

    def put(self, library, model, name, yard):
        yards = {**model.yards(), name: yard}
        at = model.broken(yards, model.wishes())
        if at is not None:
            self.raised(Broken, "index", at, lambda: library.__setitem__(name, yard))
            return "put Broken"
        library[name] = yard
        model.change(yards, model.wishes())
        return "put"

    def remove(self, library, model, name):
        if name not in model.yards():
            self.raised(UnknownName, "given", name, lambda: library.remove(name))
            return "remove UnknownName"
        uses = [at for at, (other, _) in enumerate(model.wishes()) if other == name]
        if uses:
            self.raised(InUse, "index", uses[0], lambda: library.remove(name))
            return "remove InUse"
        self.assertIsNone(library.remove(name=name))
        model.change({other: yard for other, yard in model.yards().items() if other != name}, model.wishes())
        return "remove"

    def wish(self, library, model, name, draw):
        if name not in model.yards():
            self.raised(UnknownName, "given", name, lambda: library.wish(name, ("out", 5)),
                        lambda: library.wish(name, None))
            return "wish UnknownName"
        word, number = draw.choice(list(measures(model.yards()[name]).items()))
        # at, below and above what comes
        wish = (word, max(0, number + draw.choice((-2, -1, 0, 0, 1, 5))))
        wishes = model.wishes() + ((name, wish),)
        if model.broken(model.yards(), wishes) is not None:
            self.raised(Broken, "index", len(wishes) - 1, lambda: library.wish(name, wish))
            return "wish Broken"
        self.assertIsNone(library.wish(wish=wish, name=name))
        self.assertIs(library.wishes[-1][1], wish)
        model.change(model.yards(), wishes)
        return "wish"

    def lift(self, library, model, index):
        wishes = model.wishes()
        if index not in range(len(wishes)):
            self.raised(InvalidIndex, "given", index, lambda: library.lift(index), lambda: library.lift(index=index))
            return "lift InvalidIndex"
        self.assertIsNone(library.lift(index))
        model.change(model.yards(), wishes[:index] + wishes[index + 1:])
        return "lift"


class Holding(Showing):
    def setUp(self):
        self.library, self.model = Library(), Model()
        for name, yard in (("all", hall()), ("b", PAIR), ("c3", CALM)):
            self.library[name] = yard
            self.model.change({**self.model.yards(), name: yard}, ())
        for pair in (("b", ("swaps", 3)), ("all", ("out", 20)), ("b", ("rings", 3)), ("all", ("moves", 8)),
                     ("b", ("swaps", 3))):
            self.library.wish(*pair)
            self.model.change(self.model.yards(), self.model.wishes() + (pair,))

    def same(self):
        self.shown(self.library, self.model)


class Held(Holding):
    def test_wishes_of_all_words(self):
        for yard in [hall(), *drawn_yards(113, 15), *great_yards(114, 10)]:
            for word, number in measures(yard).items():
                library = Library()
                library["a"] = yard
                for more in (-1, 0, 1, 10 ** 40):
                    wish = (word, number + more)
                    if number + more < 0:
                        self.raised(InvalidWish, "given", wish, lambda: library.wish("a", wish))
                    elif kept(yard, wish):
                        library.wish("a", wish)
                        library.lift(0)
                    else:
                        self.raised(Broken, "index", 0, lambda: library.wish("a", wish))
                self.assertEqual(library.wishes, ())

    def test_first_wish_that_would_not_hold(self):
        for name, yard, at in (("b", Yard(("x", "y"), ((0, 4), (4, 0))), 0), ("b", CALM, 2),
                               ("all", hall() + hall(), 1),
                               ("all", Yard(("x", "y"), ((0, 9), (9, 0))), 3)):
            self.raised(Broken, "index", at, lambda: self.library.__setitem__(name, yard))
            self.same()
        self.library.lift(0)
        self.raised(Broken, "index", 3, lambda: self.library.__setitem__("b", Yard(("x", "y"), ((0, 4), (4, 0)))))
        self.raised(Broken, "index", 4, lambda: self.library.wish("c3", ("rings", 1)))
        self.library.undo()
        self.raised(Broken, "index", 5, lambda: self.library.wish("c3", ("rings", 1)))
        self.same()

    def test_in_use_with_the_first_wish(self):
        self.raised(InUse, "index", 0, lambda: self.library.remove("b"))
        self.raised(InUse, "index", 1, lambda: self.library.remove("all"))
        self.library.lift(0)
        self.raised(InUse, "index", 1, lambda: self.library.remove("b"))
        self.raised(InUse, "index", 0, lambda: self.library.remove(name="all"))
        self.library.remove("c3")
        self.raised(UnknownName, "given", "c3", lambda: self.library.remove("c3"), lambda: self.library["c3"])
        self.library.undo()
        self.library.undo()
        self.same()

    def test_errors_in_their_order(self):
        library = self.library
        for value in NO_NAMES:
            self.raised(InvalidName, "given", value, lambda: library.__setitem__(value, None),
                        lambda: library.__setitem__(value, hall() + hall()))
        for value in NO_YARDS:
            self.raised(NotYard, "given", value, lambda: library.__setitem__("all", value),
                        lambda: library.__setitem__("new", value))
        for value in UNKNOWN:
            self.raised(UnknownName, "given", value, lambda: library[value], lambda: library.remove(value),
                        lambda: library.remove(name=value), lambda: library.wish(value, None),
                        lambda: library.wish(wish=("rings", 10 ** 9), name=value))
        for value in NO_WISHES:
            self.raised(InvalidWish, "given", value, lambda: library.wish("all", value),
                        lambda: library.wish(wish=value, name="b"))
        for value in values_of_all_kinds() + [5, 6, -1, -5, 10 ** 40, "0", (0,), True, False, "all"]:
            self.raised(InvalidIndex, "given", value, lambda: library.lift(value), lambda: library.lift(index=value))
        self.same()
        self.taken_back(library, self.model)

    def test_changes_that_make_nothing_different(self):
        for yards in (("b", PAIR), ("all", hall()), ("c3", CALM)):
            self.library[yards[0]] = yards[1]
            self.model.change({**self.model.yards(), yards[0]: yards[1]}, self.model.wishes())
            self.same()
        self.assertEqual(self.library.changes, 11)
        self.taken_back(self.library, self.model)

    def test_any_value_in_a_library(self):
        for value in UNKNOWN + NO_NAMES:
            self.assertIs(value in self.library, False)
            self.assertIs(value not in self.library, True)
        for name in ("all", "b", "c3"):
            self.assertIs(name in self.library, True)

    def test_never_equal(self):
        for value in [Library(), hall(), *values_of_all_kinds()]:
            self.assertIs(Library() == value, False)
            self.assertIs(Library() != value, True)
        self.assertIs(self.library == self.library, True)
        self.assertIs(bool(Library()), True)

    def test_wishes_are_those_that_were_passed(self):
        wish = tuple(["out", 10 ** 45])
        self.library.wish("c3", wish)
        self.assertIs(self.library.wishes[-1][1], wish)
        names = self.library.names
        self.library["zz"] = CALM
        self.assertEqual(names, ("all", "b", "c3"))


class Trials(Holding):
    def done(self):
        """Some changes of each kind, also taking back what was before: the model goes along."""
        library, model = self.library, self.model
        library.undo()
        library.undo()
        del model.pictures[-2:]
        library["zz"] = CALM
        model.change({**model.yards(), "zz": CALM}, model.wishes())
        library.lift(0)
        model.change(model.yards(), model.wishes()[1:])
        library.remove("c3")
        model.change({name: yard for name, yard in model.yards().items() if name != "c3"}, model.wishes())
        library.wish("zz", ("out", 0))
        model.change(model.yards(), model.wishes() + (("zz", ("out", 0)),))
        self.same()

    def kept_pictures(self):
        return list(self.model.pictures)

    def test_ends_well(self):
        with self.library.trial() as library:
            self.assertIs(library, self.library)
            self.done()
        self.same()
        self.taken_back(self.library, self.model)

    def test_ends_with_errors(self):
        def broken():
            self.library["zz"] = PAIR

        def stopped():
            raise Stopped

        for error, action in ((Broken, broken), (Stopped, stopped), (UnknownName, lambda: self.library["x"]),
                              (SystemExit, sys.exit), (KeyError, lambda: {}[1])):
            pictures = self.kept_pictures()
            with self.assertRaises(error):
                with self.library.trial():
                    self.done()
                    action()
            self.model.pictures = pictures
            self.same()
        self.taken_back(self.library, self.model)

    def test_ends_otherwise(self):
        def returned():
            with self.library.trial() as library:
                library["zz"] = CALM
                return library.changes

        self.assertEqual(returned(), 9)
        self.model.change({**self.model.yards(), "zz": CALM}, self.model.wishes())
        for _ in range(2):
            with self.library.trial():
                self.library.undo()
                self.model.pictures.pop()
                continue
        self.same()
        self.taken_back(self.library, self.model)

    def test_asking_alone_changes_nothing(self):
        trial = self.library.trial()
        self.same()
        self.library["zz"] = CALM
        self.model.change({**self.model.yards(), "zz": CALM}, self.model.wishes())
        pictures = self.kept_pictures()
        with self.assertRaises(Stopped):
            with trial:
                self.library.undo()
                self.library.undo()
                raise Stopped
        self.model.pictures = pictures
        self.same()
        self.taken_back(self.library, self.model)

    def test_within_one_another(self):
        for well in (False, True):
            pictures = self.kept_pictures()
            try:
                with self.library.trial():
                    self.library["y2"] = CALM
                    self.model.change({**self.model.yards(), "y2": CALM}, self.model.wishes())
                    self.inner()
                    with self.library.trial():
                        self.done()
                    if not well:
                        raise Stopped
            except Stopped:
                self.model.pictures = pictures
            self.same()
        self.taken_back(self.library, self.model)

    def inner(self):
        """A trial that ends with an error, within another one that goes on."""
        pictures = self.kept_pictures()
        with self.assertRaises(Stopped):
            with self.library.trial():
                self.done()
                with self.library.trial():
                    self.library.undo()
                raise Stopped
        self.model.pictures = pictures
        self.same()

    def test_one_object_for_several_statements(self):
        trial = self.library.trial()
        for _ in range(2):
            pictures = self.kept_pictures()
            with self.assertRaises(Stopped):
                with trial:
                    self.done()
                    raise Stopped
            self.model.pictures = pictures
            self.same()
        before = self.kept_pictures()
        with self.assertRaises(Stopped):
            with trial:
                self.library["y2"] = CALM
                self.model.change({**self.model.yards(), "y2": CALM}, self.model.wishes())
                pictures = self.kept_pictures()
                with self.assertRaises(ZeroDivisionError):
                    with trial:
                        self.done()
                        raise ZeroDivisionError
                self.model.pictures = pictures
                self.same()
                with trial, trial:
                    self.library.undo()
                    self.model.pictures.pop()
                self.same()
                raise Stopped
        self.model.pictures = before
        self.same()
        with trial:
            self.done()
        self.same()
        self.taken_back(self.library, self.model)

    def test_tried(self):
        def action(library):
            self.assertIs(library, self.library)
            self.done()
            return library.changes, library

        self.assertEqual(self.library.tried(action), (10, self.library))
        self.same()
        self.assertEqual(self.library.tried(action=len), 3)
        self.assertIsNone(self.library.tried(lambda library: None))
        for error in (Stopped, Broken, KeyError):
            def failing(library):
                library.undo()
                library["q"] = CALM
                raise error(0)

            with self.assertRaises(error):
                self.library.tried(failing)
            self.same()
        self.assertIsNone(self.library.tried(lambda library: library.tried(lambda again: again.undo())))
        self.model.pictures.pop()
        self.same()

    def test_two_libraries(self):
        other = Library()
        with self.assertRaises(Stopped):
            with self.library.trial():
                other["a"] = CALM
                self.library["zz"] = CALM
                raise Stopped
        self.same()
        self.assertEqual((other.names, other.changes, other["a"]), (("a",), 1, CALM))

    def test_long_rows(self):
        library = Library()
        for many in range(2000):
            library["a"] = PAIR if many % 2 else CALM
        self.assertEqual((library.changes, len(library)), (2000, 1))
        with self.assertRaises(Stopped):
            with library.trial():
                for many in range(2000):
                    library.undo()
                self.assertEqual((library.changes, library.names), (0, ()))
                raise Stopped
        self.assertEqual((library.changes, library["a"]), (2000, PAIR))
        self.assertGreater(MOST, library.changes)


if __name__ == "__main__":
    unittest.main()
