"""How many kinds, things, facts and changes there can be."""

MOST_KINDS = 4
MOST_COUNT = 10 ** 30
MOST_FACTS = 12
MOST_CHANGES = 6
