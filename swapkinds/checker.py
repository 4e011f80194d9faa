"""The checker: whether a certificate shows that a claim is true.

It reads claims and certificates itself and rests on nothing else of the package, so that this file is all there is to
be trusted. A table is a dict that has the number of things for each pair (place, thing) of kinds.
"""

from swapkinds.limits import MOST_COUNT, MOST_FACTS, MOST_KINDS

FIRST_SIGNS = "abcdefghijklmnopqrstuvwxyz"
DIGITS = "0123456789"
LONGEST_NAME = 8
MOST_TOLD = 10 ** 24


def is_tuple(value, length):
    """Whether a value is a tuple of so many."""
    return isinstance(value, tuple) and len(value) == length


def is_integer(value):
    """Whether a value is an integer; True and False are none."""
    return isinstance(value, int) and not isinstance(value, bool)


def is_name(value):
    """Whether a value is a name."""
    if not isinstance(value, str) or not 1 <= len(value) <= LONGEST_NAME:
        return False
    return value[0] in FIRST_SIGNS and all([sign in FIRST_SIGNS + DIGITS for sign in value])


def are_kinds(value):
    """Whether a value is a tuple of two to four different names."""
    if not isinstance(value, tuple) or not 2 <= len(value) <= MOST_KINDS:
        return False
    return all([is_name(kind) for kind in value]) and len(set(value)) == len(value)


def are_of(kinds, value):
    """Whether a value is a tuple of some of the kinds, in any numbers."""
    return isinstance(value, tuple) and all([isinstance(kind, str) and kind in kinds for kind in value])


def is_order(kinds, value):
    """Whether a value is an order of the kinds."""
    return are_of(kinds, value) and len(value) == len(kinds) and len(set(value)) == len(kinds)


def is_move(kinds, value):
    """Whether a value is a swap or a turn of the kinds."""
    if not are_of(kinds, value) or len(value) not in (4, 6):
        return False
    return len(set(value[::2])) == len(value) // 2 and len(set(value[1::2])) > 1


def number_in(word, most):
    """The number that a word tells, from 0 to the most; -1 for any other word."""
    if not 1 <= len(word) <= len(str(most)) or not all([sign in DIGITS for sign in word]):
        return -1
    number = int(word)
    return number if number <= most and str(number) == word else -1


def steps_of(kinds):
    """All steps, ascending by where their kinds stand."""
    return [(place, thing) for place in kinds for thing in kinds if place != thing]


def read_yard(text):
    """The kinds and the table of a yard with this text; (None, None) if any value is the text of none."""
    if not isinstance(text, str):
        return (None, None)
    lines = [tuple(line.split(" ")) for line in text.split("\n")]
    kinds = lines[0][1:]
    if lines[0][0] != "kinds" or not are_kinds(kinds):
        return (None, None)
    # each line has a word for its place and one for each kind
    if tuple([line[0] for line in lines[1:]]) != kinds or not all([len(line) == len(lines[0]) for line in lines]):
        return (None, None)
    table = {(place, thing): number_in(word, MOST_COUNT)
             for place, *words in lines[1:] for thing, word in zip(kinds, words)}
    return (kinds, table) if is_balanced(kinds, table) else (None, None)


def is_balanced(kinds, table):
    """Whether a table has no numbers below 0 and of each kind as many things as places."""
    if min(table.values()) < 0:
        return False
    return all([sum([table[kind, other] - table[other, kind] for other in kinds]) == 0 for kind in kinds])


def cases_forward(order, table):
    """How many cases the steps that go forward in an order have together."""
    return sum([table[place, thing] for at, place in enumerate(order) for thing in order[at + 1:]])


def table_behind(table, move, times):
    """The table behind a move of its kinds that is made so often; None if it cannot be."""
    behind = {step: table[step] for step in table}
    for at in range(0, len(move), 2):
        place, goes, comes = move[at], move[at + 1], move[at - 1]
        if table[place, goes] < (1 if goes == comes else times):
            return None
        behind[place, goes] -= times
        behind[place, comes] += times
    return behind


def puts_right(kinds, table, plan, sizes, number):
    """Whether a value is a plan of so many moves of these lengths that can be made and leaves all things in place."""
    if not isinstance(plan, tuple):
        return False
    made = 0
    for part in plan:
        if not is_tuple(part, 2) or not is_move(kinds, part[0]) or len(part[0]) not in sizes:
            return False
        if not is_integer(part[1]) or part[1] < 1:
            return False
        table = table_behind(table, part[0], part[1])
        if table is None:
            return False
        made += part[1]
    return made == number and all([table[step] == 0 for step in steps_of(kinds)])


def shows_swaps(kinds, table, number, certificate):
    """Whether an order shows that no fewer swaps do, and a plan that so many do."""
    if not is_tuple(certificate, 2) or not is_order(kinds, certificate[0]):
        return False
    order, plan = certificate
    return cases_forward(order, table) == number and puts_right(kinds, table, plan, (4,), number)


def is_bar(kinds, value):
    """Whether a value is a tuple of steps, ascending, such that each ring of three has one of them."""
    if not isinstance(value, tuple) or not all([is_tuple(step, 2) and are_of(kinds, step) for step in value]):
        return False
    if value != tuple([step for step in steps_of(kinds) if step in value]):
        return False
    rings = [(one, other, third) for one, other in steps_of(kinds) for third in kinds if third not in (one, other)]
    return all([(a, b) in value or (b, c) in value or (c, a) in value for a, b, c in rings])


def shows_moves(kinds, table, number, certificate):
    """Whether a bar shows that no fewer moves do, and a plan that so many do."""
    if not is_tuple(certificate, 2) or not is_bar(kinds, certificate[0]):
        return False
    bar, plan = certificate
    out = sum([table[step] for step in steps_of(kinds)])
    barred = sum([table[step] for step in bar])
    return 2 * number == out - barred and puts_right(kinds, table, plan, (4, 6), number)


def shows_good(kinds, table, swap, number, certificate):
    """Whether so many swaps can be made, and just so many fewer are needed behind them."""
    if number < 1 or not is_move(kinds, swap) or len(swap) != 4 or not is_tuple(certificate, 2):
        return False
    before, after = certificate
    behind = table_behind(table, swap, number)
    if behind is None or not is_tuple(before, 2) or not is_order(kinds, before[0]):
        return False
    needed = cases_forward(before[0], table)
    return shows_swaps(kinds, table, needed, before) and shows_swaps(kinds, behind, needed - number, after)


def read_fact(kinds, value):
    """The step that a fact is about, the least and the most cases (None if not told); None if any value is none."""
    words = value.split(" ") if isinstance(value, str) else []
    if len(words) not in (4, 6) or words[0] not in kinds or words[1] not in kinds or words[0] == words[1]:
        return None
    step = (words[0], words[1])
    numbers = [number_in(word, MOST_TOLD) for word in words[3::2]]
    forms = {"is": (numbers[0], numbers[0]), "least": (numbers[0], None), "most": (0, numbers[0])}
    if min(numbers) < 0:
        return None
    if len(words) == 4:
        return (step, *forms[words[2]]) if words[2] in forms else None
    return (step, *numbers) if words[2] == "from" and words[4] == "to" and numbers[0] <= numbers[1] else None


def read_facts(kinds, value):
    """For each step the least and the most cases that a tuple of facts lets it have; None if any value is none."""
    if not are_kinds(kinds) or not isinstance(value, tuple) or not 1 <= len(value) <= MOST_FACTS:
        return None
    facts = [read_fact(kinds, line) for line in value]
    if None in facts:
        return None
    bounds = {}
    for step in steps_of(kinds):
        mosts = [most for other, _, most in facts if other == step and most is not None]
        bounds[step] = (max([0] + [least for other, least, _ in facts if other == step]), min(mosts, default=None))
    return bounds


def orders_of(kinds):
    """All orders of the kinds, ascending by where these stand."""
    found = [()]
    for _ in kinds:
        found = [begun + (kind,) for begun in found for kind in kinds if kind not in begun]
    return found


def shows_within(kinds, bounds, number, certificate):
    """Whether for each order in turn there are heights that show that its steps forward have at most so many cases."""
    orders = orders_of(kinds)
    if not is_tuple(certificate, len(orders)):
        return False
    for order, pair in zip(orders, certificate):
        if not is_tuple(pair, 2) or not is_order(kinds, pair[0]) or pair[0] != order:
            return False
        if not is_tuple(pair[1], len(kinds)) or not all([is_integer(height) for height in pair[1]]):
            return False
        most = most_forward(kinds, bounds, order, pair[1])
        if most is None or most > number:
            return False
    return True


def most_forward(kinds, bounds, order, heights):
    """What the heights show the cases of the steps forward to be at most; None if they do not show it."""
    total = 0
    for place, thing in bounds:
        forward = 1 if order.index(place) < order.index(thing) else 0
        weight = forward + heights[kinds.index(place)] - heights[kinds.index(thing)]
        least, most = bounds[place, thing]
        if weight > 0 and most is None:
            return None
        total += weight * (most if weight > 0 else least)
    return total


def shows_needs(kinds, bounds, number, certificate):
    """Whether a yard fits the bounds and has so many cases of steps forward in an order, or more."""
    if not is_tuple(certificate, 2) or not is_order(kinds, certificate[1]):
        return False
    others, table = read_yard(certificate[0])
    if others != kinds:
        return False
    for step in bounds:
        least, most = bounds[step]
        if table[step] < least or most is not None and table[step] > most:
            return False
    return cases_forward(certificate[1], table) >= number


def accepts_of_yard(claim, certificate):
    """Whether this is a claim about a yard, and its certificate."""
    kinds, table = read_yard(claim[1])
    if kinds is None:
        return False
    if claim[0] == "swaps":
        return is_tuple(claim, 3) and shows_swaps(kinds, table, claim[-1], certificate)
    if claim[0] == "moves":
        return is_tuple(claim, 3) and shows_moves(kinds, table, claim[-1], certificate)
    return is_tuple(claim, 4) and shows_good(kinds, table, claim[2], claim[-1], certificate)


def accepts_of_facts(claim, certificate):
    """Whether this is a claim about facts, and its certificate."""
    bounds = read_facts(claim[1], claim[2])
    if bounds is None or not is_tuple(claim, 4):
        return False
    if claim[0] == "within":
        return shows_within(claim[1], bounds, claim[-1], certificate)
    return shows_needs(claim[1], bounds, claim[-1], certificate)


def accepts(claim, certificate):
    """Whether `claim` is a claim for the checker and `certificate` one for it, whatever both are."""
    if not isinstance(claim, tuple) or len(claim) < 3 or not isinstance(claim[0], str) or not is_integer(claim[-1]):
        return False
    if claim[0] in ("swaps", "moves", "good"):
        return accepts_of_yard(claim, certificate)
    return claim[0] in ("within", "needs") and accepts_of_facts(claim, certificate)
