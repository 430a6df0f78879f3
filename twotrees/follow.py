"""What follows the nonterminals of a grammar."""

from twotrees.marks import all_marked, hollow_marks, productive_rules, reached, useful_rules
from twotrees.rows import NONTERMINAL

# The end stands among the classes that follow a nonterminal, below them all.
END = -1


def first_of_row(symbols, firsts, hollow):
    """The classes with which what a row of symbols covers may begin, as a dict of True."""
    found = {}
    for symbol in symbols:
        if symbol[0] != NONTERMINAL:
            for number in range(symbol[1], symbol[2] + 1):
                found[number] = True
            return found
        found.update(firsts[symbol[1]])
        if not hollow[symbol[1]]:
            return found
    return found


def first_classes(grammar, hollow):
    """For each nonterminal the classes of its first bytes, as a dict of True."""
    rules = productive_rules(grammar)
    firsts = [{} for head in range(grammar.nonterminals)]
    changed = True
    while changed:
        changed = False
        for head, symbols in rules:
            size = len(firsts[head])
            firsts[head].update(first_of_row(symbols, firsts, hollow))
            changed = changed or len(firsts[head]) > size
    return firsts


def follow_classes(grammar):
    """For each nonterminal the classes that follow it, and END where the end does, as a dict of True."""
    hollow = hollow_marks(grammar)
    firsts = first_classes(grammar, hollow)
    rules = useful_rules(grammar)
    follows = [{} for head in range(grammar.nonterminals)]
    handed_by = [[] for head in range(grammar.nonterminals)]
    if any([rule[0] == 0 for rule in rules]):
        follows[0][END] = True
    for head, symbols in rules:
        for place, symbol in enumerate(symbols):
            if symbol[0] == NONTERMINAL:
                behind = symbols[place + 1:]
                follows[symbol[1]].update(first_of_row(behind, firsts, hollow))
                if all_marked(behind, hollow, False):
                    handed_by[symbol[1]].append(head)
    return [joined(follows, head, reached(handed_by, head)) for head in range(grammar.nonterminals)]


def joined(follows, head, others):
    """What follows a nonterminal itself or one of the others."""
    found = dict(follows[head])
    for other in others:
        found.update(follows[other])
    return found
