"""The nodes of all trees over a text with their alternatives, and the core among them."""

MOST_NODES = 256
MOST_ALTERNATIVES = 512
# How many lists of sizes are remembered before all are forgotten: it keeps the memory small.
MOST_SIZES = 40000


class Forests:
    """Finds nodes (nonterminal, from, to) and alternatives (rule, kids); a text is a tuple of classes."""

    def __init__(self, grammar, counts):
        self.counts = counts
        self.rules_of = [[] for head in range(grammar.nonterminals)]
        for number, rule in enumerate(grammar.rules):
            self.rules_of[rule[0]].append((number, counts.tails.by_rule[number]))
        self.known_sizes = {}
        self.known_pairs = {}

    def rules_at_odds(self, head, text):
        """The rules of the core's two alternatives; None if the text has no core or is too great."""
        key = (head, text)
        if key not in self.known_pairs:
            self.known_pairs[key] = self.find_pair(head, text)
        return self.known_pairs[key]

    def find_pair(self, head, text):
        """The same, worked out."""
        # Most texts have no core: the ways tell so sooner than the nodes do.
        nodes = self.nodes_over(head, text) if self.counts.ways(head, text) > 1 else None
        if nodes is None:
            return None
        core = core_among(nodes)
        return (core[1][0], core[2][0])

    def nodes_over(self, head, text):
        """All nodes over a text that the nonterminal covers, with their alternatives; None if it is too great."""
        # Counting the text makes sure that all its pieces are counted.
        self.counts.ways(head, text)
        if len(self.known_sizes) > MOST_SIZES:
            self.known_sizes = {}
        order = [(head, 0, len(text))]
        known = {order[0]: True}
        found = {}
        room = MOST_ALTERNATIVES
        while len(found) < len(order):
            node = order[len(found)]
            found[node] = self.alternatives(node, text, room + 1)
            room -= len(found[node])
            order.extend(new_kids(found[node], known))
            if room < 0 or len(order) > MOST_NODES:
                return None
        return found

    def alternatives(self, node, text, most):
        """The first alternatives of a node, at most so many, in their order."""
        found = []
        for rule, tail in self.rules_of[node[0]]:
            found.extend([(rule, kids) for kids in self.partings(tail, node, text, most - len(found))])
        return found

    def partings(self, tail, node, text, most):
        """The kids for the first ways, at most so many, in which a rule's symbols cover the node's piece."""
        behind = node[2]
        if not self.counts.tail_covers(tail, text[node[1]:behind]):
            return []
        rows = [((), node[1])]
        while tail != 0:
            # Each row can be led to its end: so the first ones of now lead to the first ones at the end.
            rows = self.one_symbol_more(rows[:most], tail, text[:behind])
            tail = self.counts.tails.rests[tail]
        return [kids for kids, place in rows[:most]]

    def one_symbol_more(self, rows, tail, text):
        """The rows (kids, place reached) with the tail's first symbol added, the symbol's shorter pieces first."""
        head = self.counts.tails.head_first(tail)
        longer = []
        for kids, place in rows:
            for size in self.sizes_in(tail, text[place:]):
                kid = () if head is None else ((head, place, place + size),)
                longer.append((kids + kid, place + size))
        return longer

    def sizes_in(self, tail, piece):
        """How many bytes the tail's first symbol may take, ascending; remembered, since many texts share a piece."""
        key = (tail, piece)
        if key not in self.known_sizes:
            self.known_sizes[key] = self.counts.sizes_of_first(tail, piece)
        return self.known_sizes[key]


def new_kids(alternatives, known):
    """The kids of the alternatives that aren't known yet, each once; they are known from now on."""
    found = []
    for rule, kids in alternatives:
        for kid in kids:
            if kid not in known:
                known[kid] = True
                found.append(kid)
    return found


def core_among(nodes):
    """The core's node and its first two alternatives; None if each node has one alternative alone."""
    parted = [node for node in nodes if len(nodes[node]) > 1]
    if len(parted) == 0:
        return None
    node = min(parted, key=lambda one: (one[2] - one[1], one[1], one[0]))
    return (node, nodes[node][0], nodes[node][1])
