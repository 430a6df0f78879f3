"""What the document tells, worked out slowly and straight from its words, on small grammars.

Grammars are given as (nonterminals, rules) in the form of lines.grammar_row.
"""

import itertools

MOST = 10 ** 60


def symbol_kind(symbol):
    return "nonterminal" if isinstance(symbol, int) else "range"


def bounds(symbol):
    return (ord(symbol), ord(symbol)) if isinstance(symbol, str) else symbol


def signs_of(rules):
    """The first bytes of the classes: those where another set of ranges holds than one byte before."""
    ranges = sorted({bounds(s) for head, symbols in rules for s in symbols if symbol_kind(s) == "range"})
    found = []
    before = []
    for byte in range(256):
        here = [pair for pair in ranges if pair[0] <= byte <= pair[1]]
        if here and here != before:
            found.append(byte)
        before = here
    return found


class Forest:
    """All nonterminals with pieces that cover, and how, over one text."""

    def __init__(self, nonterminals, rules, text):
        self.rules = rules
        self.text = text
        self.covered = set()
        self.counts = {}
        pieces = [(i, j) for i in range(len(text) + 1) for j in range(i, len(text) + 1)]
        size = -1
        while len(self.covered) != size:
            size = len(self.covered)
            for (head, symbols), (i, j) in itertools.product(rules, pieces):
                if self.partings(symbols, i, j):
                    self.covered.add((head, i, j))

    def partings(self, symbols, i, j):
        """All ways in which the symbols cover the piece by what is known: the kids of each."""
        if not symbols:
            return [()] if i == j else []
        symbol, rest = symbols[0], symbols[1:]
        found = []
        if symbol_kind(symbol) == "range":
            lo, hi = bounds(symbol)
            if i < j and lo <= self.text[i] <= hi:
                found += self.partings(rest, i + 1, j)
            return found
        for m in range(i, j + 1):
            if (symbol, i, m) in self.covered:
                found += [((symbol, i, m),) + kids for kids in self.partings(rest, m, j)]
        return found

    def alternatives(self, node):
        """All pairs of a rule and kids, in their order."""
        head, i, j = node
        found = [(rule, kids) for rule, (rule_head, symbols) in enumerate(self.rules) if rule_head == head
                 for kids in self.partings(symbols, i, j)]
        return sorted(found, key=lambda pair: (pair[0], [kid[2] for kid in pair[1]]))

    def below(self, node):
        """The nodes of all trees of a node, each with the kids of its alternatives."""
        found = {}
        waiting = [node]
        while waiting:
            one = waiting.pop()
            if one not in found:
                found[one] = {kid for rule, kids in self.alternatives(one) for kid in kids}
                waiting += found[one]
        return found

    def stands_beneath_itself(self, node):
        """Whether some tree of the node has a node beneath which the same one stands."""
        below = self.below(node)
        for one in below:
            seen = set()
            waiting = list(below[one])
            while waiting:
                other = waiting.pop()
                if other not in seen:
                    seen.add(other)
                    waiting += below[other]
            if one in seen:
                return True
        return False

    def trees(self, node):
        if node not in self.counts:
            total = 0
            for rule, kids in self.alternatives(node):
                product = 1
                for kid in kids:
                    product *= self.trees(kid)
                total += product
            self.counts[node] = total
        return self.counts[node]

    def listed_trees(self, node):
        """All trees of a node with finitely many, each told by its nodes (rule, from, to)."""
        found = []
        for rule, kids in self.alternatives(node):
            rows = [[(rule, node[1], node[2])]]
            for kid in kids:
                rows = [row + tree for row in rows for tree in self.listed_trees(kid)]
            found += rows
        return found


def ways_of(nonterminals, rules, a, text):
    """What ways answers."""
    forest = Forest(nonterminals, rules, text)
    node = (a, 0, len(text))
    if node not in forest.covered:
        return [0, 0]
    if forest.stands_beneath_itself(node):
        return [1]
    return [0, min(forest.trees(node), MOST)]


def texts_in_order(signs, most):
    for size in range(most + 1):
        for text in itertools.product(signs, repeat=size):
            yield list(text)


def search_of(nonterminals, rules, a, most, tries, behind=None):
    """What search answers, or next behind a text."""
    found = signs_of(rules)
    texts = list(texts_in_order(found, most))
    if behind is not None:
        texts = [text for text in texts if (len(text), text) > (len(behind), behind)]
    for looked, text in enumerate(texts):
        if looked == tries:
            return [2]
        if ways_of(nonterminals, rules, a, text) not in ([0, 0], [0, 1]):
            return [1, looked + 1, len(text)] + text
    return [0, len(texts)]


def core_of(nonterminals, rules, a, text):
    """What core answers."""
    forest = Forest(nonterminals, rules, text)
    root = (a, 0, len(text))
    if root not in forest.covered:
        return [-8]
    found = {node: forest.alternatives(node) for node in forest.below(root)}
    if len(found) > 256 or sum(len(alternatives) for alternatives in found.values()) > 512:
        return [-9]
    parted = [(j - i, i, head) for head, i, j in found if len(found[head, i, j]) >= 2]
    if not parted:
        return [0]
    size, i, head = min(parted)
    first, second = found[head, i, i + size][:2]
    told = [1, 2 if first[0] == second[0] else 1, head, i, i + size]
    for rule, kids in (first, second):
        told += [rule, len(kids)] + [number for kid in kids for number in kid]
    return told


def surveys_of(nonterminals, rules, a, most):
    """What tally, widest and odds answer."""
    found = signs_of(rules)
    if sum(len(found) ** size for size in range(most + 1)) > 300:
        return [[-10]] * 3
    texts = list(texts_in_order(found, most))
    ways = [ways_of(nonterminals, rules, a, text) for text in texts]
    several = [text for text, number in zip(texts, ways) if number not in ([0, 0], [0, 1])]
    tally = [0, len(texts), len(texts) - ways.count([0, 0]), len(several), ways.count([1])]
    # Compared as lists, [1] stands above every [0, number].
    most_ways = max(ways)
    text = texts[ways.index(most_ways)]
    pairs = []
    for one in several:
        told = core_of(nonterminals, rules, a, one)
        if told != [-9]:
            pair = [told[5], told[7 + 3 * told[6]]]
            pairs += [] if pair in pairs else [pair]
    odds = [0, len(pairs)] + [rule for pair in pairs for rule in pair]
    return [tally, [0] + most_ways + [len(text)] + text, odds]


def grown(step):
    """The least set that a step, which adds to a set, leaves as it is."""
    found = set()
    while True:
        more = found | step(found)
        if more == found:
            return found
        found = more


def nonterminals_in(symbols):
    return [s for s in symbols if symbol_kind(s) == "nonterminal"]


def useful_and_follow(rules):
    """The pairs (nonterminal, byte or 'end') of what follows."""
    hollow = grown(lambda known: {head for head, symbols in rules if all(
        symbol_kind(s) == "nonterminal" and s in known for s in symbols)})
    productive = grown(lambda known: {head for head, symbols in rules if all(
        s in known for s in nonterminals_in(symbols))})
    sound = [(head, symbols) for head, symbols in rules if all(s in productive for s in nonterminals_in(symbols))]
    reachable = grown(lambda known: {0} | {s for head, symbols in sound if head in known
                                           for s in nonterminals_in(symbols)})
    useful = [(head, symbols) for head, symbols in sound if head in reachable and head in productive]

    def begins(symbols, first):
        found = set()
        for symbol in symbols:
            if symbol_kind(symbol) == "range":
                return found | set(range(bounds(symbol)[0], bounds(symbol)[1] + 1))
            found |= {byte for head, byte in first if head == symbol}
            if symbol not in hollow:
                return found
        return found

    first = grown(lambda known: {(head, byte) for head, symbols in sound for byte in begins(symbols, known)})

    def follow_step(known):
        found = {(0, "end")} if 0 in productive else set()
        for head, symbols in useful:
            for k, symbol in enumerate(symbols):
                if symbol_kind(symbol) == "nonterminal":
                    behind = symbols[k + 1:]
                    found |= {(symbol, byte) for byte in begins(behind, first)}
                    if all(symbol_kind(s) == "nonterminal" and s in hollow for s in behind):
                        found |= {(symbol, what) for other, what in known if other == head}
        return found

    return grown(follow_step)


def all_states(rules):
    """All states, as frozen sets of closed items, with the bytes (signs) that moves lead over."""
    more = list(rules) + [(None, [0])]

    def closing(items):
        return frozenset(items | grown(lambda known: {
            (number, 0) for rule, place in items | known for number, (head, symbols) in enumerate(more)
            if place < len(more[rule][1]) and symbol_kind(more[rule][1][place]) == "nonterminal"
            and head is not None and head == more[rule][1][place]}))

    def step(state, takes):
        return {(rule, place + 1) for rule, place in state
                if place < len(more[rule][1]) and takes(more[rule][1][place])}

    heads = sorted({s for head, symbols in more for s in nonterminals_in(symbols)})
    found = signs_of(rules)
    states = {}
    waiting = [closing({(len(rules), 0)})]
    while waiting:
        state = waiting.pop(0)
        if state in states:
            continue
        over = set()
        for head in heads:
            led = step(state, lambda s: symbol_kind(s) == "nonterminal" and s == head)
            if led:
                waiting.append(closing(led))
        for byte in found:
            led = step(state, lambda s: symbol_kind(s) == "range" and bounds(s)[0] <= byte <= bounds(s)[1])
            if led:
                over.add(byte)
                waiting.append(closing(led))
        states[state] = over
    return states


def sure_of(rules):
    """What sure answers."""
    states = all_states(rules)
    if len(states) > 128:
        return [-11]
    follow = useful_and_follow(rules)
    for state, over in states.items():
        for what in signs_of(rules) + ["end"]:
            things = 1 if what in over else 0
            for rule, place in state:
                if rule == len(rules):
                    things += 1 if place == 1 and what == "end" else 0
                elif place == len(rules[rule][1]) and (rules[rule][0], what) in follow:
                    things += 1
            if things > 1:
                return [0, 0]
    return [0, 1]
