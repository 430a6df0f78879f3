"""The states of a grammar, and whether its table has conflicts."""

from twotrees.follow import END, follow_classes
from twotrees.rows import NONTERMINAL

MOST_STATES = 128


class Rulebook:
    """The grammar's rules with the one rule more, by which items (rule, place) are read."""

    def __init__(self, grammar):
        self.last = len(grammar.rules)
        self.rows = [rule[1] for rule in grammar.rules] + [[(NONTERMINAL, 0)]]
        self.heads = [rule[0] for rule in grammar.rules]

    def is_whole(self, item):
        """Whether no symbol stands behind the item's place."""
        return item[1] == len(self.rows[item[0]])

    def closing(self, kernel):
        """The items of the closing of a set of items; those with the place 0 in it are of the one rule more alone."""
        closed = list(kernel)
        known = {}
        at = 0
        while at < len(closed):
            if not self.is_whole(closed[at]):
                symbol = self.rows[closed[at][0]][closed[at][1]]
                if symbol[0] == NONTERMINAL and symbol[1] not in known:
                    known[symbol[1]] = True
                    closed.extend([(rule, 0) for rule, head in enumerate(self.heads) if head == symbol[1]])
            at += 1
        return sorted(closed)

    def moved(self, closed):
        """Where the moves lead: for each nonterminal and for each class the items one place further, in two dicts."""
        over_heads = {}
        over_classes = {}
        for rule, place in closed:
            if place < len(self.rows[rule]):
                symbol = self.rows[rule][place]
                if symbol[0] == NONTERMINAL:
                    over_heads.setdefault(symbol[1], []).append((rule, place + 1))
                else:
                    for number in range(symbol[1], symbol[2] + 1):
                        over_classes.setdefault(number, []).append((rule, place + 1))
        return (over_heads, over_classes)


def kernels_in_order(moves):
    """The sets of items that the moves lead to, before closing: over nonterminals, then over classes, ascending."""
    kernels = []
    for led in moves:
        kernels.extend([tuple(led[symbol]) for symbol in sorted(led)])
    return kernels


def states_of(book):
    """All states as pairs (items, classes that moves lead over); None if there are more than MOST_STATES."""
    start = ((book.last, 0),)
    # The items that a state was closed from tell it: closing adds none but those with the place 0.
    kernels = [start]
    known = {start: True}
    states = []
    while len(states) < len(kernels):
        closed = book.closing(kernels[len(states)])
        moves = book.moved(closed)
        states.append((closed, list(moves[1])))
        for kernel in kernels_in_order(moves):
            if kernel not in known:
                known[kernel] = True
                kernels.append(kernel)
        if len(kernels) > MOST_STATES:
            return None
    return states


def has_conflict(book, state, follows):
    """Whether more than one thing may be done in a state at a class or at the end."""
    done = {}
    for number in state[1]:
        done[number] = True
    for item in state[0]:
        if book.is_whole(item):
            due = follows[book.heads[item[0]]] if item[0] < book.last else {END: True}
            if any([number in done for number in due]):
                return True
            done.update(due)
    return False


def is_sure(grammar):
    """Whether the grammar's table has no conflicts; None if it has no table."""
    book = Rulebook(grammar)
    states = states_of(book)
    if states is None:
        return None
    follows = follow_classes(grammar)
    return not any([has_conflict(book, state, follows) for state in states])
