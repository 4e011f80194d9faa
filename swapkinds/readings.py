"""Facts as they are written: what each of them tells of the cases of a step."""

from swapkinds.limits import MOST_COUNT
from swapkinds.tables import is_kind, number_of

MOST_TOLD = 10 ** 24
# Stands for no most at all. It is so far above what facts tell that a number that comes of it, some of those that they
# tell added and taken away, is above FAR, and one that comes of those alone is not.
UNTOLD = MOST_COUNT
FAR = 10 ** 28


def told_number(word):
    """The number that a word of a fact tells; -1 if it is not written as it must be, or is too great."""
    number = number_of(word)
    return number if number <= MOST_TOLD and str(number) == word else -1


def told_range(words):
    """The least and the most cases that the words behind the kinds of a fact tell; None if they are none of a fact."""
    numbers = [told_number(word) for word in words[1::2]]
    if len(words) % 2 == 1 or -1 in numbers:
        return None
    told = words[::2]
    if told == ["is"]:
        return (numbers[0], numbers[0])
    if told == ["from", "to"] and numbers[0] <= numbers[1]:
        return (numbers[0], numbers[1])
    if told == ["least"]:
        return (numbers[0], UNTOLD)
    if told == ["most"]:
        return (0, numbers[0])
    return None


def read_fact(kinds, value):
    """What a fact about these kinds tells: (cell of the step, least, most); None if any value is no such fact."""
    if not isinstance(value, str):
        return None
    place, *words = value.split(" ")
    if len(words) < 2 or not is_kind(kinds, place) or not is_kind(kinds, words[0]) or words[0] == place:
        return None
    told = told_range(words[1:])
    if told is None:
        return None
    least, most = told
    return (kinds.index(place) * len(kinds) + kinds.index(words[0]), least, most)


def cell_bounds(count, told):
    """The least and the most cases of all cells that what facts tell lets be: a list of each."""
    lows = [0] * (count * count)
    highs = [UNTOLD] * (count * count)
    for at, least, most in told:
        lows[at] = max(lows[at], least)
        highs[at] = min(highs[at], most)
    return (lows, highs)
