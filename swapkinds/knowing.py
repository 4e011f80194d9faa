"""Facts about the numbers of a yard, and what is told of all tables that fit them."""

from swapkinds.errors import Impossible, InvalidFacts, InvalidKind, NotFacts, OtherKinds
from swapkinds.flows import is_possible, least_cases, least_cost, most_cases, most_forward, rise_costs, some_cells
from swapkinds.flows import step_cells
from swapkinds.limits import MOST_FACTS
from swapkinds.readings import FAR, UNTOLD, cell_bounds, read_fact
from swapkinds.shapes import FORWARD, OUT_RISES
from swapkinds.tables import ENDLESS, cells_of, is_kind, rows_of_cells
from swapkinds.yards import check_kinds, check_yard

def facts_read(kinds, lines):
    """What the lines tell, one by one; raises InvalidFacts if they are no one to twelve facts about the kinds."""
    if not isinstance(lines, tuple) or len(lines) == 0:
        raise InvalidFacts(None)
    told = []
    for at, line in enumerate(lines):
        fact = read_fact(kinds, line)
        if at >= MOST_FACTS or fact is None:
            raise InvalidFacts(at)
        told.append(fact)
    return told


class Facts:
    """One to twelve facts about the cases of the steps of some kinds."""

    def __init__(self, kinds, lines):
        check_kinds(kinds)
        told = facts_read(kinds, lines)
        self._kinds = kinds
        self._lines = lines
        lows, highs = cell_bounds(len(kinds), told)
        self._lows = tuple(lows)
        self._highs = tuple(highs)

    @property
    def kinds(self):
        """The kinds, as they were passed."""
        return self._kinds

    @property
    def lines(self):
        """The facts, as they were passed."""
        return self._lines

    def cell(self, place, thing):
        """The cell of a step."""
        if not is_kind(self._kinds, place):
            raise InvalidKind(place)
        if not is_kind(self._kinds, thing) or thing == place:
            raise InvalidKind(thing)
        return self._kinds.index(place) * len(self._kinds) + self._kinds.index(thing)

    def bounds(self, place, thing):
        """The least and the greatest number of cases of a step that all facts about it let be by themselves."""
        at = self.cell(place, thing)
        high = self._highs[at]
        return (self._lows[at], None if high == UNTOLD else high)

    def __eq__(self, other):
        return isinstance(other, Facts) and self._kinds == other._kinds and self._lines == other._lines

    def __len__(self):
        return len(self._lines)

    def __repr__(self):
        return f"Facts about {len(self._kinds)} kinds"


def told_bounds(facts):
    """How many kinds facts are about, and the least and the most cases of all cells; raises NotFacts."""
    if not isinstance(facts, Facts):
        raise NotFacts(facts)
    return (len(facts.kinds), facts._lows, facts._highs)


def possible_bounds(facts):
    """The same of facts that some table fits; raises NotFacts and Impossible."""
    count, lows, highs = told_bounds(facts)
    if not is_possible(count, lows, highs):
        raise Impossible()
    return (count, lows, highs)


def greatest(number):
    """The greatest number as it is told: "endless" where it comes of a step without most cases."""
    return ENDLESS if number > FAR else number


def possible(facts):
    """Whether some table fits the facts."""
    count, lows, highs = told_bounds(facts)
    return is_possible(count, lows, highs)


def fits(facts, yard):
    """Whether the table of the yard fits the facts."""
    count, lows, highs = told_bounds(facts)
    check_yard(yard)
    if yard.kinds != facts.kinds:
        raise OtherKinds(yard)
    cells = cells_of(yard.rows)
    return all([lows[at] <= cells[at] <= highs[at] for at in step_cells(count)])


def some_rows(facts):
    """Any table that fits the facts, as rows, with nothing in place; None if there is none."""
    count, lows, highs = told_bounds(facts)
    if not is_possible(count, lows, highs):
        return None
    return rows_of_cells(count, some_cells(count, lows, highs))


def case_range(facts, place, thing):
    """The least and the greatest number of cases of a step in tables that fit."""
    count, lows, highs = told_bounds(facts)
    at = facts.cell(place, thing)
    if not is_possible(count, lows, highs):
        raise Impossible()
    return (least_cases(count, lows, highs, at), greatest(most_cases(count, lows, highs, at)))


def most_weight(count, lows, highs, weight):
    """The most that the cases of all steps are together in tables between bounds, each of this weight."""
    costs = rise_costs(count, lows, highs, weight, weight)
    return least_cost(costs, FORWARD[count][0], OUT_RISES[count])


def out_range(facts):
    """The least and the greatest number of things out of place in tables that fit."""
    count, lows, highs = possible_bounds(facts)
    return (-most_weight(count, lows, highs, -1), greatest(most_weight(count, lows, highs, 1)))


def most_swaps(facts):
    """The greatest number of swaps that a table that fits needs at least; "endless" if there is none."""
    count, lows, highs = possible_bounds(facts)
    most, _ = most_forward(count, lows, highs, FAR)
    return greatest(most)
