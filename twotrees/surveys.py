"""What is told of all texts of signs up to a length together."""

from twotrees.counts import endless


def tally_of(counts, head, texts):
    """How many texts there are, how many the nonterminal covers, how many in several and in infinitely many ways."""
    ways = [counts.ways(head, text) for text in texts]
    limit = endless()
    covered = [number for number in ways if number > 0]
    several = [number for number in covered if number > 1]
    infinite = [number for number in several if number == limit]
    return [len(texts), len(covered), len(several), len(infinite)]


def widest_of(counts, head, texts):
    """The most ways in which the nonterminal covers one of the texts, and the first text it covers so."""
    ways = [counts.ways(head, text) for text in texts]
    most = max(ways)
    return (most, texts[ways.index(most)])


def odds_of(forests, head, texts):
    """The pairs of rules of the texts' cores, each once, in the order in which they come."""
    pairs = {}
    for text in texts:
        pair = forests.rules_at_odds(head, text)
        if pair is not None:
            pairs[pair] = True
    return list(pairs)
