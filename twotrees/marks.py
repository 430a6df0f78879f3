"""Which nonterminals are hollow, productive or useful, and what is reached along edges."""

from twotrees.rows import NONTERMINAL


def all_marked(symbols, marks, ranges_too):
    """Whether each symbol is a marked nonterminal, or a range where these count too."""
    for symbol in symbols:
        if symbol[0] == NONTERMINAL and not marks[symbol[1]]:
            return False
        if symbol[0] != NONTERMINAL and not ranges_too:
            return False
    return True


def marked_by_rules(grammar, ranges_too):
    """Marks each nonterminal one of whose rules has marked symbols alone, until no more can be marked."""
    marks = [False] * grammar.nonterminals
    changed = True
    while changed:
        changed = False
        for head, symbols in grammar.rules:
            if not marks[head] and all_marked(symbols, marks, ranges_too):
                marks[head] = True
                changed = True
    return marks


def hollow_marks(grammar):
    """For each nonterminal whether it covers the piece without bytes."""
    return marked_by_rules(grammar, False)


def rules_of_marked(grammar, marks, ranges_too):
    """The rules whose symbols are all marked nonterminals, or ranges where these count too."""
    return [rule for rule in grammar.rules if all_marked(rule[1], marks, ranges_too)]


def edges_of(rules, nonterminals):
    """For each nonterminal the nonterminals among the symbols of its rules."""
    edges = [[] for head in range(nonterminals)]
    for head, symbols in rules:
        edges[head].extend([symbol[1] for symbol in symbols if symbol[0] == NONTERMINAL])
    return edges


def reached(edges, start):
    """All nonterminals that one edge or more lead to from the start, as a dict of True."""
    found = {}
    waiting = list(edges[start])
    while len(waiting) > 0:
        head = waiting.pop()
        if head not in found:
            found[head] = True
            waiting.extend(edges[head])
    return found


def bottom_up(below):
    """The nonterminals in an order in which each stands behind those it reaches and that don't reach it."""
    # What reaches another, and is not reached back, reaches more than that one does, both counted with themselves.
    sizes = [len(found) if head in found else len(found) + 1 for head, found in enumerate(below)]
    return sorted(range(len(sizes)), key=lambda head: sizes[head])


def productive_rules(grammar):
    """The rules all of whose nonterminals cover some piece."""
    return rules_of_marked(grammar, marked_by_rules(grammar, True), True)


def useful_rules(grammar):
    """The productive rules of the nonterminals that the start leads to by productive rules."""
    rules = productive_rules(grammar)
    found = reached(edges_of(rules, grammar.nonterminals), 0)
    return [rule for rule in rules if rule[0] == 0 or rule[0] in found]
