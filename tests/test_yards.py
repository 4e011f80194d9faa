"""Yards made, their texts, equality, len, str, repr, truth, cases, out and size."""

import unittest

from swapkinds.errors import InvalidKind, InvalidKinds, InvalidRows, InvalidText, Unbalanced
from swapkinds.yards import Yard
from tests.samples import HALL_ROWS, HALL_TEXT, MOST, Agreeing, hall, values_of_all_kinds

GOOD_ROWS = ((1, 2), (2, 0))


class Made(unittest.TestCase):
    def kinds_fault(self, kinds, index, rows=GOOD_ROWS):
        for call in (lambda: Yard(kinds, rows), lambda: Yard(rows=rows, kinds=kinds)):
            with self.assertRaises(InvalidKinds) as caught:
                call()
            self.assertEqual((caught.exception.index, type(caught.exception)), (index, InvalidKinds), kinds)

    def rows_fault(self, rows, index, kinds=("a", "b")):
        for call in (lambda: Yard(kinds, rows), lambda: Yard(rows=rows, kinds=kinds)):
            with self.assertRaises(InvalidRows) as caught:
                call()
            self.assertEqual(caught.exception.index, index, rows)

    def test_example(self):
        yard = hall()
        self.assertEqual([repr(yard), len(yard), yard.cases("a", "b"), yard.out(), yard.size()],
                         ["Yard of 4 kinds", 4, 4, 20, 26])
        with self.assertRaises(Unbalanced) as caught:
            Yard(("a", "b"), ((1, 2), (3, 1)))
        self.assertEqual(caught.exception.given, "a")

    def test_two_to_four_kinds_as_passed(self):
        for count in (2, 3, 4):
            kinds = ("z9", "abcdefgh", "kinds", "a1234567")[:count]
            rows = tuple(tuple(at + to for to in range(count)) for at in range(count))
            for yard in (Yard(kinds, rows), Yard(kinds=kinds, rows=rows)):
                self.assertIs(yard.kinds, kinds)
                self.assertIs(yard.rows, rows)
                self.assertEqual(len(yard), count)

    def test_kinds_no_tuple_or_too_few(self):
        for kinds in values_of_all_kinds() + ["ab", ("a",), (1,), (None,), ["a", "b"], {"a": 1, "b": 2}]:
            self.kinds_fault(kinds, None)
            self.kinds_fault(kinds, None, "rows")

    def test_kinds_that_are_no_names(self):
        no_names = values_of_all_kinds() + ["A", "aB", "1a", "abcdefghi", "a-b", "a_b", "a ", " a", "a\n", "\n", "a.b"]
        no_names += [("a",), 1, 0]
        for value in no_names:
            self.kinds_fault((value, "b"), 0)
            self.kinds_fault(("b", value), 1)
            self.kinds_fault(("a", "b", value, "c"), 2)
            self.kinds_fault(("a", "b", value, value, "b", "a"), 2)

    def test_names_twice_and_the_fifth(self):
        self.kinds_fault(("a", "a"), 1)
        self.kinds_fault(("a", "b", "c", "b"), 3)
        self.kinds_fault(("a", "b", "b", 5), 2)
        self.kinds_fault(("a", "b", "c", "d", "e"), 4)
        self.kinds_fault(("a", "b", "c", "d", "e", "f"), 4)
        self.kinds_fault(("a", "b", "c", "d", "d"), 4)
        self.kinds_fault(("a", "b", "c", 1, "e"), 3)
        self.kinds_fault(("a", Agreeing()), 1)

    def test_kinds_ahead_of_rows(self):
        for rows in values_of_all_kinds():
            self.kinds_fault(("a", "A"), 1, rows)

    def test_rows_no_tuple_or_another_number(self):
        for rows in values_of_all_kinds():
            self.rows_fault(rows, None)
        for rows in ([(1, 2), (2, 0)], ((0, 0),), ((0, 0), (0, 0), (0, 0)), (1, 2, 3), (1,), ()):
            self.rows_fault(rows, None)
        self.rows_fault(GOOD_ROWS, None, ("a", "b", "c"))

    def test_rows_that_are_none(self):
        for row in values_of_all_kinds() + [[1, 2], (1,), (1, 2, 3), "12", 12]:
            self.rows_fault((row, (1, 2)), 0)
            self.rows_fault(((1, 2), row), 1)
            self.rows_fault((row, row), 0)
        self.rows_fault(((0, 0, 0), (0, 0, 0), (0, 0, [0])), 2, ("a", "b", "c"))

    def test_numbers_of_rows(self):
        bad = values_of_all_kinds() + [-1, MOST + 1, 10 ** 40, "1", (1,)]
        for number in bad:
            self.rows_fault(((number, 0), (0, 0)), 0)
            self.rows_fault(((0, 0), (0, number)), 1)
            self.rows_fault(((0, number), (number, 0)), 0)
        yard = Yard(("a", "b"), ((MOST, MOST), (MOST, 0)))
        self.assertEqual((yard.size(), yard.out()), (3 * MOST, 2 * MOST))

    def test_rows_ahead_of_balance(self):
        self.rows_fault(((1, 2), (3, True)), 1)
        self.rows_fault(((1, 2), (3, MOST + 1)), 1)

    def test_first_unbalanced_kind(self):
        for kinds, rows, first in [
                (("x", "y"), ((0, 1), (0, 0)), "x"),
                (("x", "y", "z"), ((0, 1, 0), (1, 0, 1), (0, 0, 0)), "y"),
                (("x", "y", "z", "a"), ((5, 1, 0, 0), (1, 0, 0, 0), (0, 0, 0, 2), (0, 0, 1, 0)), "z"),
                (("x", "y"), ((0, MOST), (MOST - 1, 0)), "x")]:
            for call in (lambda: Yard(kinds, rows), lambda: Yard(rows=rows, kinds=kinds)):
                with self.assertRaises(Unbalanced) as caught:
                    call()
                self.assertEqual(caught.exception.given, first)

    def test_yards_do_not_change(self):
        yard = hall()
        for name in ("kinds", "rows"):
            with self.assertRaises(AttributeError):
                setattr(yard, name, ())
        self.assertEqual(yard, hall())


class Texts(unittest.TestCase):
    def refused(self, text):
        for call in (lambda: Yard.read(text), lambda: Yard.read(text=text), lambda: hall().read(text)):
            with self.assertRaises(InvalidText) as caught:
                call()
            self.assertIs(caught.exception.given, text)

    def test_written_and_read(self):
        self.assertEqual(str(Yard(("a", "b", "c", "d"), HALL_ROWS)), HALL_TEXT)
        self.assertEqual((hall().kinds, hall().rows), (("a", "b", "c", "d"), HALL_ROWS))
        for kinds, rows in [(("kinds", "b1"), ((0, MOST), (MOST, 7))), (("b", "a"), ((0, 0), (0, 0))),
                            (("x", "z", "y"), ((0, 10, 0), (0, 0, 10), (10, 0, 100)))]:
            text = str(Yard(kinds, rows))
            for again in (Yard.read(text), Yard.read(text=text)):
                self.assertEqual((again.kinds, again.rows, str(again)), (kinds, rows, text))
                self.assertEqual({type(number) for row in again.rows for number in row}, {int})

    def test_values_that_are_no_text(self):
        for value in values_of_all_kinds() + [hall(), HALL_TEXT.encode(), (HALL_TEXT,), HALL_TEXT.split("\n")]:
            self.refused(value)

    def test_blanks_and_newlines(self):
        for text in ("\n" + HALL_TEXT, HALL_TEXT + "\n", " " + HALL_TEXT, HALL_TEXT + " ", HALL_TEXT + "\n\n"):
            self.refused(text)
        for old, new in ((" ", "  "), ("\n", "\n\n"), ("\n", " \n"), ("\n", "\n "), ("\n", "\r\n"), ("\n", " "),
                         (" ", "\t"), (" ", ""), (" ", "\n")):
            for at, sign in enumerate(HALL_TEXT):
                if sign == old:
                    self.refused(HALL_TEXT[:at] + new + HALL_TEXT[at + 1:])

    def test_each_sign_left_out_or_put_in(self):
        for at in range(len(HALL_TEXT)):
            self.refused(HALL_TEXT[:at] + HALL_TEXT[at + 1:])
            for sign in " \n-+_.aZ":
                self.refused(HALL_TEXT[:at] + sign + HALL_TEXT[at:])
            if HALL_TEXT[at - 1] == " ":
                self.refused(HALL_TEXT[:at] + "0" + HALL_TEXT[at:])

    def test_numbers_written_otherwise(self):
        for old, new in (("1 4", "01 4"), ("2 0", "2 00"), ("2 0", "2 -0"), ("1 4", "+1 4"), ("1 4", "1_ 4"),
                         ("1 4", "1.0 4"), ("1 4", "0x1 4"), ("1 4", "True 4"), ("2 0", "2 "), ("2 0", "2")):
            self.assertIn(old, HALL_TEXT)
            self.refused(HALL_TEXT.replace(old, new, 1))
        self.refused("kinds a b\na 0 1_0\nb 1_0 0")
        self.refused(f"kinds a b\na 0 {MOST + 1}\nb {MOST + 1} 0")
        self.refused("kinds a b\na 0 0" + "0" * 40 + "\nb 0 0")
        self.refused("kinds a b\na " + "9" * 3900 + " 0\nb 0 0")

    def test_lines(self):
        lines = HALL_TEXT.split("\n")
        for at in range(len(lines)):
            self.refused("\n".join(lines[:at] + lines[at + 1:]))
            self.refused("\n".join(lines[:at] + [lines[at]] + lines[at:]))
            for other in range(at):
                swapped = list(lines)
                swapped[at], swapped[other] = lines[other], lines[at]
                self.refused("\n".join(swapped))
        self.refused("\n".join(lines + ["e 0 0 0 0"]))
        self.refused("\n".join(["kind a b c d"] + lines[1:]))
        self.refused("\n".join(["kinds a b c e"] + lines[1:]))
        self.refused("\n".join(["kinds b a c d"] + lines[1:]))

    def test_kinds_and_balance(self):
        for text in ("", "\n", "kinds", "kinds ", "kinds a\na 1", "kinds a a\na 0 0\na 0 0", "kinds A b\nA 0 0\nb 0 0",
                     "kinds a b\na 1 2\nb 3 1", "kinds a b", "kinds a b\n\n", "kinds a b\na\nb",
                     "kinds a b c d e\n" + "\n".join(name + " 0 0 0 0 0" for name in "abcde"),
                     "kinds abcdefghi b\nabcdefghi 0 0\nb 0 0", "kinds a b\na 0 0\nc 0 0"):
            self.refused(text)


class Equality(unittest.TestCase):
    def test_equal_exactly_if_the_texts_are(self):
        yards = [hall(), Yard(("a", "b", "c", "d"), HALL_ROWS), hall() + hall(), Yard(("a", "b"), ((0, 0), (0, 0))),
                 Yard(("b", "a"), ((0, 0), (0, 0))), Yard(("a", "c"), ((0, 0), (0, 0))),
                 Yard(("a", "b"), ((0, 0), (0, 1))),
                 Yard(("a", "b"), ((1, 0), (0, 0))), Yard(("a", "b", "c"), ((0,) * 3,) * 3)]
        for one in yards:
            for other in yards:
                self.assertIs(one == other, str(one) == str(other))
                self.assertIs(one != other, str(one) != str(other))

    def test_values_of_other_kinds(self):
        for value in values_of_all_kinds() + [HALL_TEXT, HALL_ROWS, (hall().kinds, HALL_ROWS), 4]:
            self.assertIs(hall() == value, False)
            self.assertIs(hall() != value, True)

    def test_len_str_repr_truth(self):
        for count in (2, 3, 4):
            yard = Yard(("a", "b", "c", "d")[:count], ((0,) * count,) * count)
            self.assertEqual((len(yard), repr(yard), bool(yard)), (count, f"Yard of {count} kinds", True))
            self.assertEqual(str(yard).split("\n")[1], "a" + " 0" * count)


class Numbers(unittest.TestCase):
    def test_cases(self):
        yard = hall()
        for at, place in enumerate("abcd"):
            for to, thing in enumerate("abcd"):
                self.assertEqual(yard.cases(place, thing), HALL_ROWS[at][to])
                self.assertEqual(yard.cases(thing=thing, place=place), HALL_ROWS[at][to])

    def test_first_that_is_no_kind(self):
        for value in values_of_all_kinds() + ["e", "A", "aa", 0, ("a",)]:
            for call in (lambda: hall().cases(value, "a"), lambda: hall().cases("a", value),
                         lambda: hall().cases(value, None), lambda: hall().cases(thing="z", place=value)):
                with self.assertRaises(InvalidKind) as caught:
                    call()
                self.assertIs(caught.exception.given, value)

    def test_out_and_size(self):
        self.assertEqual((hall().out(), hall().size()), (20, 26))
        empty = Yard(("a", "b"), ((0, 0), (0, 0)))
        self.assertEqual((empty.out(), empty.size()), (0, 0))
        placed = Yard(("a", "b"), ((MOST, 0), (0, 3)))
        self.assertEqual((placed.out(), placed.size()), (0, MOST + 3))


if __name__ == "__main__":
    unittest.main()
