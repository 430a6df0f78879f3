"""In how many ways the nonterminals of a grammar cover a text."""

from twotrees.marks import bottom_up, edges_of, hollow_marks, reached, rules_of_marked
from twotrees.rows import NONTERMINAL
from twotrees.tails import Tails

# 10^60: as many ways or more, but finitely many, are told as this number.
MOST_WAYS = 1000000000000000000000000000000000000000000000000000000000000
# How many pieces are remembered before all are forgotten: it keeps the memory small.
MOST_PIECES = 3000


def endless():
    """The number that stands for infinitely many ways: no sum of products of two finite settled numbers reaches it."""
    return MOST_WAYS ** 3


def settle(ways):
    """A sum of products of two settled numbers, settled: at most MOST_WAYS, or endless."""
    if ways <= MOST_WAYS:
        return ways
    limit = endless()
    return MOST_WAYS if ways < limit else limit


def product_of_row(symbols, ways):
    """The product of the ways of a row of nonterminals."""
    product = 1
    for symbol in symbols:
        product = settle(product * ways[symbol[1]])
    return product


def empty_ways(grammar):
    """For each nonterminal in how many ways it covers the piece without bytes."""
    rules = rules_of_marked(grammar, hollow_marks(grammar), False)
    edges = edges_of(rules, grammar.nonterminals)
    below = [reached(edges, head) for head in range(grammar.nonterminals)]
    ways = [0] * grammar.nonterminals
    for head in bottom_up(below):
        if head in below[head]:
            ways[head] = endless()
        else:
            ways[head] = settle(sum([product_of_row(rule[1], ways) for rule in rules if rule[0] == head]))
    return ways


def add_products(totals, ways, tails, rest_ways):
    """Adds to the tails' totals the ways of their first symbol times those of their rests."""
    limit = endless()
    for tail, rest in tails:
        # What is endless stays so: to leave it spares products of great numbers.
        if rest_ways[rest] > 0 and totals[tail] < limit:
            totals[tail] += ways * rest_ways[rest]


class Counts:
    """Counts trees over pieces; a piece is a tuple of classes, since its place in a text doesn't matter."""

    def __init__(self, grammar):
        self.tails = Tails(grammar)
        self.empty_heads = empty_ways(grammar)
        self.empty_tails = self.tails_over_nothing()
        self.loose_tails = self.tails_to_finish()
        self.units = self.units_of_heads()
        edges = [list(unit) for unit in self.units]
        self.below = [reached(edges, head) for head in range(grammar.nonterminals)]
        self.order = bottom_up(self.below)
        self.forget()

    def forget(self):
        """Keeps the empty piece alone."""
        self.head_ways = {(): self.empty_heads}
        self.tail_ways = {(): self.empty_tails}

    def tails_over_nothing(self):
        """For each tail in how many ways it covers the piece without bytes."""
        ways = [1]
        for tail in range(1, len(self.tails.firsts)):
            ways.append(settle(self.nothing(self.tails.firsts[tail]) * ways[self.tails.rests[tail]]))
        return ways

    def nothing(self, symbol):
        """In how many ways a symbol covers the piece without bytes."""
        return self.empty_heads[symbol[1]] if symbol[0] == NONTERMINAL else 0

    def tails_to_finish(self):
        """The tails whose first symbol may take no byte, or all of a piece, each with its rest and that symbol."""
        found = []
        for tail in range(1, len(self.tails.firsts)):
            symbol = self.tails.firsts[tail]
            rest = self.tails.rests[tail]
            if symbol[0] == NONTERMINAL and (self.nothing(symbol) > 0 or self.empty_tails[rest] > 0):
                found.append((tail, rest, symbol[1]))
        return found

    def units_of_tails(self):
        """For each tail the nonterminals in it that may take a whole piece, and in how many ways the rest is empty."""
        units = [{}]
        for tail in range(1, len(self.tails.firsts)):
            symbol = self.tails.firsts[tail]
            rest = self.tails.rests[tail]
            unit = {}
            if self.nothing(symbol) > 0:
                for head, ways in units[rest].items():
                    unit[head] = settle(self.nothing(symbol) * ways)
            if symbol[0] == NONTERMINAL and self.empty_tails[rest] > 0:
                unit[symbol[1]] = settle(unit.get(symbol[1], 0) + self.empty_tails[rest])
            units.append(unit)
        return units

    def units_of_heads(self):
        """The same for each nonterminal: all its rules together."""
        of_tails = self.units_of_tails()
        units = []
        for wholes in self.tails.wholes:
            unit = {}
            for tail in wholes:
                for head, ways in of_tails[tail].items():
                    unit[head] = settle(unit.get(head, 0) + ways)
            units.append(unit)
        return units

    def ways(self, head, text):
        """In how many ways a nonterminal covers a text, given as a tuple of classes."""
        if text not in self.head_ways:
            self.count_pieces(text)
        return self.head_ways[text][head]

    def tail_covers(self, tail, piece):
        """Whether a tail covers a piece that is counted."""
        return self.tail_ways[piece][tail] > 0

    def symbol_covers(self, symbol, piece):
        """Whether a symbol covers a piece that is counted."""
        if symbol[0] == NONTERMINAL:
            return self.head_ways[piece][symbol[1]] > 0
        return len(piece) == 1 and symbol[1] <= piece[0] <= symbol[2]

    def sizes_of_first(self, tail, piece):
        """How many bytes of a counted piece a tail's first symbol may cover while the rest covers the others."""
        symbol = self.tails.firsts[tail]
        rest = self.tails.rests[tail]
        sizes = [size for size in range(len(piece) + 1) if self.symbol_covers(symbol, piece[:size])]
        return [size for size in sizes if self.tail_covers(rest, piece[size:])]

    def count_pieces(self, text):
        """Counts over all pieces of the text, the shorter ones first."""
        if len(self.head_ways) > MOST_PIECES:
            self.forget()
        for size in range(1, len(text) + 1):
            for start in range(len(text) - size + 1):
                piece = text[start:start + size]
                if piece not in self.head_ways:
                    self.count_piece(piece)

    def count_piece(self, piece):
        """Counts over a piece with bytes all of whose shorter pieces are counted."""
        parted = self.parted_ways(piece)
        without = self.with_wholes(parted, [0] * len(self.units))
        bases = [settle(sum([without[tail] for tail in wholes])) for wholes in self.tails.wholes]
        heads = self.heads_from_bases(bases)
        self.head_ways[piece] = heads
        self.tail_ways[piece] = self.with_wholes(parted, heads)

    def parted_ways(self, piece):
        """For each tail the ways in which its first symbol takes a byte or more, and a nonterminal not all of them."""
        totals = [0] * len(self.tails.firsts)
        add_products(totals, 1, self.tails.by_class[piece[0]], self.tail_ways[piece[1:]])
        for cut in range(1, len(piece)):
            rest_ways = self.tail_ways[piece[cut:]]
            for head, ways in enumerate(self.head_ways[piece[:cut]]):
                if ways > 0:
                    add_products(totals, ways, self.tails.by_head[head], rest_ways)
        return [total if total <= MOST_WAYS else settle(total) for total in totals]

    def with_wholes(self, parted, heads):
        """Adds to each tail's ways those in which its first symbol takes no byte, or all of them as heads tells."""
        totals = list(parted)
        for tail, rest, head in self.loose_tails:
            more = self.empty_heads[head] * totals[rest] + heads[head] * self.empty_tails[rest]
            if more > 0:
                totals[tail] = settle(totals[tail] + more)
        return totals

    def heads_from_bases(self, bases):
        """The ways of the nonterminals, from those in which none of the root's children is over the whole piece."""
        ways = [0] * len(bases)
        for head in self.order:
            if head in self.below[head]:
                # It stands beneath itself over the same piece: one tree makes endlessly many.
                if any([bases[other] > 0 for other in self.below[head]]):
                    ways[head] = endless()
            else:
                total = bases[head]
                for other, factor in self.units[head].items():
                    total += factor * ways[other]
                ways[head] = settle(total)
        return ways
