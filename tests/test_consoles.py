"""Consoles: every form of line and every answer, lines near each form, and rows of lines against a model."""

import random
import unittest

from swapkinds.consoles import Console
from swapkinds.errors import NotThere, TooGreat
from swapkinds.orders import best_orders, least_swaps
from swapkinds.plans import most_in_place
from swapkinds.rings import most_rings
from swapkinds.turns import least_moves
from swapkinds.yards import Yard
from tests.samples import MOST, hall, values_of_all_kinds
from tests.searches import KINDS, SWAPS, drawn_yards, great_yards, moves_of

PUT = "yard h kinds x y; x 0 3; y 3 5"
NO_LINE = "no such line"


def put_line(name, yard):
    return f"yard {name} " + str(yard).replace("\n", "; ")


class Model:
    """What a console does, told by whole pictures of its yards."""

    def __init__(self):
        self.pictures = [{}]

    def put(self, name, yard):
        self.pictures.append({**self.pictures[-1], name: yard})

    def drop(self, name):
        self.pictures.append({other: yard for other, yard in self.pictures[-1].items() if other != name})

    def undo(self):
        if len(self.pictures) == 1:
            return "nothing"
        self.pictures.pop()
        return "undone"


def told(yard, number):
    """The answers to all that is asked of a yard."""
    return {"out": str(yard.out()), "swaps": str(least_swaps(yard)), "moves": str(least_moves(yard)),
            "rings": str(most_rings(yard)), "order": " ".join(best_orders(yard)[0]),
            "behind": str(most_in_place(yard, number))}


class Asking(unittest.TestCase):
    def answers(self, console, *pairs):
        for line, answer in pairs:
            self.assertEqual(console.do(line), answer, line)


class Answers(Asking):
    def test_example(self):
        console = Console()
        self.answers(console, (PUT, "put"), ("swaps h", "3"), ("swap h x y y x", "done"), ("out h", "4"),
                     ("behind h 1", "9"), ("order h", "x y"), ("swap h x x y y", "done"), ("rings h", "3"),
                     ("undo", "undone"), ("swap h x y z x", "no such swap"), ("behind h 01", NO_LINE),
                     ("drop k", "no such yard"), ("moves h", "2"))
        self.assertEqual(console.names, ("h",))

    def test_at_first(self):
        console = Console()
        self.assertEqual(console.names, ())
        self.answers(console, ("undo", "nothing"), *((f"{word} h", "no such yard") for word in
                                                     ("drop", "out", "swaps", "moves", "rings", "order")),
                     ("behind h 1", "no such yard"), ("swap h a b b a", "no such yard"))
        self.assertIs(bool(console), True)
        self.assertEqual(console.do(line=PUT), "put")

    def test_all_that_is_told_of_yards(self):
        for yard in [hall(), *drawn_yards(100, 40), *great_yards(101, 30), Yard(("x", "y"), ((0, 0), (0, 0)))]:
            console = Console()
            self.answers(console, (put_line("it1", yard), "put"))
            for number in (0, 1, 2, 7, least_swaps(yard), 10 ** 30, 10 ** 99):
                for word, answer in told(yard, number).items():
                    self.answers(console, (f"{word} it1" + f" {number}" * (word == "behind"), answer))
            self.assertEqual(console.names, ("it1",))
            self.answers(console, ("undo", "undone"), ("undo", "nothing"))

    def test_each_swap_made_and_taken_back(self):
        full = Yard(KINDS, ((0, MOST, 1, 0), (MOST, 2, 0, 1), (1, 0, MOST, 0), (0, 1, 0, 0)))
        found = {}
        for yard in [hall(), full, *drawn_yards(102, 10), *great_yards(103, 5)]:
            console = Console()
            console.do(put_line("h", yard))
            for swap in moves_of(len(yard), SWAPS):
                swap = tuple(yard.kinds[at] for at in swap)
                for move in (swap, swap[2:] + swap[:2]):
                    try:
                        behind, answer = yard.made(move, 1), "done"
                    except NotThere:
                        behind, answer = yard, "not there"
                    except TooGreat:
                        behind, answer = yard, "too great"
                    found[answer] = found.get(answer, 0) + 1
                    self.answers(console, ("swap h " + " ".join(move), answer))
                    self.answers(console, *((f"{word} h" + " 2" * (word == "behind"), told_answer)
                                            for word, told_answer in told(behind, 2).items()))
                    if answer == "done":
                        self.answers(console, ("undo", "undone"))
                    self.answers(console, ("out h", str(yard.out())))
            self.answers(console, ("undo", "undone"), ("undo", "nothing"))
        self.assertEqual(sorted(found), ["done", "not there", "too great"])


class Lines(Asking):
    def setUp(self):
        self.console = Console()
        self.answers(self.console, (PUT, "put"), ("swap h x y y x", "done"))

    def same(self):
        """The console is as it was at the beginning of the test, also what can be taken back."""
        self.assertEqual(self.console.names, ("h",))
        self.answers(self.console, ("out h", "4"), ("undo", "undone"), ("out h", "6"), ("undo", "undone"),
                     ("undo", "nothing"), ("out h", "no such yard"), (PUT, "put"), ("swap h x y y x", "done"))

    def refused(self, answer, *lines):
        for line in lines:
            self.answers(self.console, (line, answer))
        self.same()

    def test_no_such_line(self):
        self.refused(NO_LINE, "", " ", "  ", "\n", "x", "h", "help", "Undo", "UNDO", "undo ", " undo", "undo h",
                     "undo\n",
                     "undone", "names", "size h", "threes h", "yard", "yard ", "yard h", "yard h ", "yard  h",
                     "yard  h kinds x y", " " + PUT, "Yard h kinds x y; x 0 3; y 3 5", "yard\nh kinds x y", "yard  ",
                     "put h kinds x y; x 0 3; y 3 5", "yardh kinds x y")
        for word in ("drop", "out", "swaps", "moves", "rings", "order"):
            self.refused(NO_LINE, word, word + " ", word + "  h", word + " h ", " " + word + " h", word + " h h",
                         word + "  ", word.upper() + " h", word.title() + " h", word + "h", word + "\th",
                         word[:-1] + " h",
                         word + " h 1", word + " k k", word + " k ", word + "\n h")
        for number in ("01", "00", "-1", "+1", "1.0", "x", "", " 1", "1 ", "1 1", "1_0", "1\n", "0x1", "1,000", "-0",
                       "h"):
            self.refused(NO_LINE, f"behind h {number}", f"behind k {number}", f"behind K- {number}")
        self.refused(NO_LINE, "behind", "behind h", "behind  h 1", "behind h  1", " behind h 1", "Behind h 1",
                     "behind 1",
                     "behind 1 ", "behind\nh 1")
        self.refused(NO_LINE, "swap", "swap h", "swap h x y y", "swap h x y y x x", "swap h x y y x ",
                     " swap h x y y x",
                     "swap  h x y y x", "swap h x y  y x", "Swap h x y y x", "swap h x,y,y,x", "swap h (x, y, y, x) 1",
                     "swap k x y y", "swaps h x y y x", "swap h x y y x 1", "swap x y y x", "swap h x y y x y x")

    def test_no_such_yard(self):
        names = ("k", "H", "hh", "h1", "1", "K-", "h\n", "\nh", "h;", "no", "yard", "undo", "x" * 9, "\th", "h\tx", "0")
        for name in names:
            self.refused("no such yard",
                         *(f"{word} {name}" for word in ("drop", "out", "swaps", "moves", "rings", "order")),
                         f"behind {name} 0", f"behind {name} 9" + "9" * 90, f"swap {name} x y y x",
                         f"swap {name} a a a a",
                         f"swap {name} x\n y y 5")

    def test_no_such_swap(self):
        self.refused("no such swap", *("swap h " + words for words in (
            "x y x y", "x y y y", "x x y x", "x y z x", "z y y x", "x z y x", "x y y z", "X y y x", "x y y x\n",
            "1 2 3 4",
            "a b c d", "x x x x", "x y x x", "x y y \n", "x y \ty x")))

    def test_not_there_and_too_great(self):
        self.answers(self.console, ("yard g kinds x y z; x 0 1 0; y 1 0 0; z 0 0 0", "put"),
                     ("swap g x z y x", "not there"), ("swap g x y z x", "not there"), ("swap g x x y y", "not there"),
                     ("undo", "undone"))
        self.answers(self.console, (f"yard g kinds x y; x {MOST} 1; y 1 3", "put"), ("swap g x y y x", "too great"),
                     ("swap g x x y y", "done"), ("swap g x y y x", "done"), ("undo", "undone"), ("undo", "undone"),
                     ("undo", "undone"))
        self.same()

    def test_no_name_comes_before_no_yard(self):
        rows = PUT[len("yard h "):]
        for name in ("H", "1h", "h-", "h" * 9, "h\n", "\n", ";", "kinds;", "h_", "0", "\th"):
            self.refused("no name", f"yard {name} {rows}", f"yard {name} x", f"yard {name}  ", f"yard {name} \n")
        for rest in ("x", " ", "  ", "\n", ";", "; ", "kinds x y", "kinds x y; x 0 3", rows + ";", rows + "; ",
                     rows + " ",
                     " " + rows, rows.replace("; ", ";"), rows.replace("; ", " ; "), rows.replace("; ", ";  "),
                     rows.replace("; ", "\n"), rows.replace("; ", "\n", 1), rows.replace("; ", ";\n"), rows + "\n",
                     rows + "; z 0 0 0", rows.replace("3 5", "4 5"), rows.replace("x 0 3", "x 00 3"), rows.upper(),
                     rows.replace("x 0 3; y 3 5", "y 3 5; x 0 3"), rows.replace("kinds", "yard"),
                     rows.replace(" 5", " -5"),
                     f"kinds x y; x {MOST + 1} 0; y 0 0", "kinds x x; x 0 0; x 0 0", "kinds x; x 0",
                     "kinds x y; x 0 3\n; y 3 5", "kinds x y; x 0 3; y 3 5\n", "kinds\nx y; x 0 3; y 3 5",
                     "kinds a b c d e; a 0 0 0 0 0; b 0 0 0 0 0; c 0 0 0 0 0; d 0 0 0 0 0; e 0 0 0 0 0",
                     "h kinds x y; x 0 3; y 3 5", "kinds x y\\n x 0 3"):
            self.refused("no yard", f"yard h {rest}", f"yard g1 {rest}")

    def test_names_that_are_words(self):
        for name in ("kinds", "undo", "yard", "drop", "swap", "x", "a2345678"):
            self.answers(self.console, (f"yard {name} kinds undo kinds; undo 1 2; kinds 2 0", "put"),
                         (f"swap {name} undo kinds kinds undo", "done"), (f"order {name}", "undo kinds"),
                         (f"out {name}", "2"))
            self.assertEqual(self.console.names, tuple(sorted((name, "h"))))
            self.answers(self.console, ("undo", "undone"), ("undo", "undone"))
        self.same()

    def test_in_the_place_of_another_one(self):
        self.answers(self.console, ("yard h kinds a b; a 7 0; b 0 7", "put"), ("out h", "0"), ("undo", "undone"),
                     ("out h", "4"), ("drop h", "dropped"), ("drop h", "no such yard"), ("out h", "no such yard"))
        self.assertEqual(self.console.names, ())
        self.answers(self.console, ("undo", "undone"), ("swap h x x y y", "done"), ("undo", "undone"))
        self.same()
        # also the same yard once more
        self.answers(self.console, ("yard h kinds x y; x 1 2; y 2 6", "put"), ("undo", "undone"))
        self.same()

    def test_never_equal(self):
        for value in [Console(), hall(), *values_of_all_kinds()]:
            self.assertIs(self.console == value, False)
            self.assertIs(self.console != value, True)
        self.assertIs(self.console == self.console, True)


class Rows(Asking):
    def test_against_a_model(self):
        draw = random.Random(104)
        sample = [hall(), *drawn_yards(105, 12), *great_yards(106, 4)]
        names = ("h", "g", "k1")
        many = {}
        for _ in range(60):
            console, model = Console(), Model()
            for _ in range(50):
                answer, line = self.step(console, model, draw, draw.choice(names), draw.choice(sample))
                many[answer] = many.get(answer, 0) + 1
                self.shown(console, model, line)
            while len(model.pictures) > 1:
                model.undo()
                self.answers(console, ("undo", "undone"))
                self.shown(console, model, "undo")
            self.answers(console, ("undo", "nothing"))
        for answer in ("put", "done", "dropped", "undone", "nothing", "not there", "no such yard", "no such line",
                       "no yard"):
            self.assertGreater(many.get(answer, 0), 10, many)

    def step(self, console, model, draw, name, yard):
        """One line for the console and the model: the answer, and the line."""
        here = model.pictures[-1].get(name)
        word = draw.choice(("yard", "yard", "drop", "swap", "swap", "swap", "swap", "undo", "wrong", "no yard"))
        if word == "yard":
            line, answer = put_line(name, yard), "put"
            model.put(name, yard)
        elif word == "undo":
            line, answer = word, model.undo()
        elif word == "wrong":
            line, answer = draw.choice((f"swap {name} a b b", f"drop  {name}", "undo ", f"drop {name} x")), NO_LINE
        elif word == "no yard":
            line, answer = put_line(name, yard) + draw.choice((" ", "\n", "; ", "0 0")), "no yard"
        elif here is None:
            line, answer = (f"{word} {name}" + " a b b a" * (word == "swap")), "no such yard"
        elif word == "drop":
            line, answer = f"drop {name}", "dropped"
            model.drop(name)
        else:
            line, answer = self.swap(model, name, here, draw)
        self.answers(console, (line, answer))
        return answer, line

    def swap(self, model, name, yard, draw):
        move = tuple(yard.kinds[at] for at in draw.choice(moves_of(len(yard), SWAPS)))
        line = f"swap {name} " + " ".join(move)
        try:
            model.put(name, yard.made(move, 1))
        except NotThere:
            return line, "not there"
        return line, "done"

    def shown(self, console, model, line):
        """All that the console tells of the yards that the model has."""
        yards = model.pictures[-1]
        self.assertEqual(console.names, tuple(sorted(yards)), line)
        for name, yard in yards.items():
            for word, answer in told(yard, 3).items():
                self.answers(console, (f"{word} {name}" + " 3" * (word == "behind"), answer))

    def test_two_consoles_beside_each_other(self):
        one, other = Console(), Console()
        self.answers(one, (PUT, "put"), ("swap h x y y x", "done"))
        self.answers(other, ("out h", "no such yard"), ("undo", "nothing"), ("yard g kinds a b; a 0 1; b 1 0", "put"))
        self.assertEqual((one.names, other.names), (("h",), ("g",)))
        self.answers(other, ("undo", "undone"), ("undo", "nothing"))
        self.answers(one, ("out h", "4"), ("undo", "undone"), ("out h", "6"))

    def test_many_lines(self):
        console = Console()
        self.answers(console, (f"yard h kinds x y; x 0 {MOST}; y {MOST} 0", "put"))
        for many in range(1, 1001):
            self.answers(console, ("swap h x y y x", "done"))
        self.answers(console, ("swaps h", str(MOST - 1000)))
        for many in range(1000):
            self.answers(console, ("undo", "undone"))
        self.answers(console, ("swaps h", str(MOST)), ("undo", "undone"), ("undo", "nothing"))


if __name__ == "__main__":
    unittest.main()
