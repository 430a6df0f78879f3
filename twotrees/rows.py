"""Grammar rows: a grammar told by a row of numbers from 0 on."""

NONTERMINAL = 0
RANGE = 1
MOST_NONTERMINALS = 20
MOST_RULES = 60
MOST_SYMBOLS = 8
LAST_BYTE = 255


def number_at(row, at):
    """The number at a place of the row; -1, which no bound lets through, where the row has ended."""
    return row[at] if at < len(row) else -1


def read_symbol(row, at, nonterminals):
    """The symbol told from a place of the row on, and the place behind it; None if there is none."""
    kind = number_at(row, at)
    first = number_at(row, at + 1)
    if kind == NONTERMINAL and 0 <= first < nonterminals:
        return ((NONTERMINAL, first), at + 2)
    if kind == RANGE and 0 <= first <= number_at(row, at + 2) <= LAST_BYTE:
        return ((RANGE, first, row[at + 2]), at + 3)
    return None


def read_rule(row, at, nonterminals):
    """The rule (its nonterminal, its symbols) told from a place on, and the place behind it; None if there is none."""
    head = number_at(row, at)
    size = number_at(row, at + 1)
    if not 0 <= head < nonterminals or not 0 <= size <= MOST_SYMBOLS:
        return None
    symbols = []
    at = at + 2
    for count in range(size):
        found = read_symbol(row, at, nonterminals)
        if found is None:
            return None
        symbols.append(found[0])
        at = found[1]
    return ((head, symbols), at)


def read_row(row):
    """How many nonterminals and which rules a grammar row tells; None if the row is no grammar row."""
    nonterminals = number_at(row, 0)
    size = number_at(row, 1)
    if not 1 <= nonterminals <= MOST_NONTERMINALS or not 0 <= size <= MOST_RULES:
        return None
    rules = []
    at = 2
    for count in range(size):
        found = read_rule(row, at, nonterminals)
        if found is None:
            return None
        rules.append(found[0])
        at = found[1]
    return (nonterminals, rules) if at == len(row) else None
