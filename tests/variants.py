"""Values that differ in one part, at any depth, from one that is given."""


def other_values(value):
    """Values that stand for none of the same form as this one, or for another one."""
    if isinstance(value, bool) or value is None:
        return [0, 1]
    if isinstance(value, int):
        return [value + 1, value - 1, -value - 1, value + 10 ** 30, value == 1, None, str(value), (value,), 1j]
    if isinstance(value, str):
        return [value + " ", " " + value, value[:-1], value.upper() + "A", "", value.encode(), None, (value,), [value],
                0]
    return [list(value), None, (), "", set(), 0, (value,), {}]


def variants(value):
    """All values that differ from a tuple in one part, at any depth: another one, one more, one less, two exchanged."""
    for other in other_values(value):
        yield other
    if isinstance(value, tuple):
        for at, part in enumerate(value):
            for other in variants(part):
                yield value[:at] + (other,) + value[at + 1:]
            yield value[:at] + value[at + 1:]
            yield value[:at] + (part,) + value[at:]
        for at in range(len(value) - 1):
            yield value[:at] + (value[at + 1], value[at]) + value[at + 2:]
        for more in (None, 0, 1, "", "a", (), value):
            yield value + (more,)


def same(one, other):
    """Whether two values are the same, and of the same kinds throughout."""
    if type(one) is not type(other):
        return False
    if isinstance(one, tuple):
        return len(one) == len(other) and all(map(same, one, other))
    return one == other
