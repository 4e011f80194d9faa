"""Consoles: lines that are answered, about yards under names."""

from swapkinds.errors import InvalidMove, NotThere, TooGreat
from swapkinds.mends import measure
from swapkinds.orders import first_best_order
from swapkinds.plans import most_in_place
from swapkinds.tables import DIGITS, is_name, kinds_at
from swapkinds.yards import yard_of_text

NO_LINE = "no such line"
NO_YARD = "no such yard"
BETWEEN = "; "

# how many words there are in each line but those that put a yard
FORMS = {"drop": 2, "out": 2, "swaps": 2, "moves": 2, "rings": 2, "order": 2, "behind": 3, "swap": 6, "undo": 1}


def is_written(word):
    """Whether a word is a number from 0 on, written without a 0 in front."""
    return all([sign in DIGITS for sign in word]) and (word[0] != "0" or word == "0")


def is_line(words):
    """Whether the words are those of a line that puts no yard."""
    # two spaces side by side, or one at an end, leave an empty word
    if FORMS.get(words[0]) != len(words) or "" in words:
        return False
    return words[0] != "behind" or is_written(words[2])


def told(yard, words):
    """What is told of a yard by the words of a line that changes nothing."""
    if words[0] == "behind":
        return str(most_in_place(yard, int(words[2])))
    if words[0] == "order":
        return " ".join(kinds_at(yard.kinds, first_best_order(yard.rows)))
    return str(measure(yard.rows, words[0]))


class Console:
    """Answers lines; at first without yards."""

    def __init__(self):
        self._yards = {}
        # for each change, the latest one last: the name and the yard that was under it, None if there was none
        self._before = []

    def do(self, line):
        """The answer to a line."""
        words = line.split(" ")
        if words[0] == "yard":
            return self._put_line(words)
        if not is_line(words):
            return NO_LINE
        if words[0] == "undo":
            return self._undone()
        name = words[1]
        if name not in self._yards:
            return NO_YARD
        if words[0] == "drop":
            self._put(name, None)
            return "dropped"
        if words[0] == "swap":
            return self._swapped(name, tuple(words[2:]))
        return told(self._yards[name], words)

    @property
    def names(self):
        """The names that there are yards under, ascending."""
        return tuple(sorted(self._yards))

    def _put_line(self, words):
        """The answer to a line that puts a yard."""
        name = words[1] if len(words) > 1 else ""
        rest = " ".join(words[2:])
        if name == "" or rest == "":
            return NO_LINE
        if not is_name(name):
            return "no name"
        # a newline in the rest is no end of a line of the text
        yard = None if "\n" in rest else yard_of_text("\n".join(rest.split(BETWEEN)))
        if yard is None:
            return "no yard"
        self._put(name, yard)
        return "put"

    def _put(self, name, yard):
        """Puts a yard under a name, or takes away the one that is there if it is None."""
        self._before.append((name, self._yards.get(name)))
        self._set(name, yard)

    def _set(self, name, yard):
        """Lets this yard be under a name, or none if it is None."""
        if yard is None:
            del self._yards[name]
        else:
            self._yards[name] = yard

    def _undone(self):
        """Takes back the last change."""
        if len(self._before) == 0:
            return "nothing"
        name, yard = self._before.pop()
        self._set(name, yard)
        return "undone"

    def _swapped(self, name, swap):
        """Makes a swap once."""
        try:
            yard = self._yards[name].made(swap, 1)
        except InvalidMove:
            return "no such swap"
        except NotThere:
            return "not there"
        except TooGreat:
            return "too great"
        self._put(name, yard)
        return "done"

    # a console is equal to no value, whatever that value says of it
    def __eq__(self, other):
        return self is other
