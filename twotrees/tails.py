"""The tails of a grammar's rules: what stands in a rule from one of its symbols on."""

from twotrees.rows import NONTERMINAL


class Tails:
    """The different tails, numbered; tail 0 has no symbols, and each other one has a higher number than its rest."""

    def __init__(self, grammar):
        self.firsts = [None]
        self.rests = [0]
        self.wholes = [[] for head in range(grammar.nonterminals)]
        self.by_rule = []
        numbers = {}
        for head, symbols in grammar.rules:
            self.by_rule.append(self.number_of(symbols, numbers))
            self.wholes[head].append(self.by_rule[-1])
        self.by_head = [[] for head in range(grammar.nonterminals)]
        self.by_class = [[] for sign in grammar.signs]
        self.sort_by_first()

    def number_of(self, symbols, numbers):
        """The number of the tail with these symbols; it and its rests are added where they are new."""
        tail = 0
        for symbol in reversed(symbols):
            key = (symbol, tail)
            if key not in numbers:
                numbers[key] = len(self.firsts)
                self.firsts.append(symbol)
                self.rests.append(tail)
            tail = numbers[key]
        return tail

    def head_first(self, tail):
        """The nonterminal that a tail with symbols begins with; None if that is a range."""
        symbol = self.firsts[tail]
        return symbol[1] if symbol[0] == NONTERMINAL else None

    def sort_by_first(self):
        """Puts each tail, with its rest, to the nonterminal or the classes that it begins with."""
        for tail in range(1, len(self.firsts)):
            symbol = self.firsts[tail]
            pair = (tail, self.rests[tail])
            if symbol[0] == NONTERMINAL:
                self.by_head[symbol[1]].append(pair)
            else:
                for number in range(symbol[1], symbol[2] + 1):
                    self.by_class[number].append(pair)
