"""A grammar whose ranges are told by the classes of bytes that it can tell apart."""

from twotrees.rows import LAST_BYTE, RANGE

NO_CLASS = -1


class Grammar:
    """Rules are pairs (nonterminal, symbols); a range among the symbols is (RANGE, first class, last class)."""

    def __init__(self, nonterminals, rules):
        classes = classes_of(ranges_of(rules))
        self.nonterminals = nonterminals
        self.signs = [first for first, behind in classes]
        self.class_of = numbers_by_byte(classes)
        self.rules = [(head, in_classes(symbols, self.class_of)) for head, symbols in rules]


def ranges_of(rules):
    """All ranges that stand in the rules, as pairs of bytes."""
    ranges = []
    for head, symbols in rules:
        ranges.extend([(symbol[1], symbol[2]) for symbol in symbols if symbol[0] == RANGE])
    return ranges


def classes_of(ranges):
    """Each class, ascending: its first byte and the number behind its last."""
    cuts = sorted(set([lo for lo, hi in ranges] + [hi + 1 for lo, hi in ranges]))
    classes = []
    for first, behind in zip(cuts, cuts[1:]):
        # No range begins or ends within the part, so its first byte speaks for all of it.
        if any([lo <= first <= hi for lo, hi in ranges]):
            classes.append((first, behind))
    return classes


def numbers_by_byte(classes):
    """For each byte the number of its class."""
    numbers = [NO_CLASS] * (LAST_BYTE + 1)
    for number, part in enumerate(classes):
        for byte in range(part[0], part[1]):
            numbers[byte] = number
    return numbers


def in_classes(symbols, class_of):
    """The symbols, with each range's bytes replaced by the classes they lie in."""
    told = []
    for symbol in symbols:
        if symbol[0] == RANGE:
            told.append((RANGE, class_of[symbol[1]], class_of[symbol[2]]))
        else:
            told.append(symbol)
    return told
