"""Answers to a line of calls on one object, which holds a grammar."""

from twotrees.classes import Grammar, NO_CLASS
from twotrees.counts import Counts, endless
from twotrees.forests import Forests, core_among
from twotrees.refusals import next_refusal, search_refusal, survey_refusal, text_refusal
from twotrees.rows import read_row
from twotrees.states import is_sure
from twotrees.surveys import odds_of, tally_of, widest_of
from twotrees.texts import FOUND, TRIES_USED, look_through, text_behind, texts_up_to

LOAD = 0
SIGNS = 1
SEARCH = 2
NEXT = 3
WAYS = 4
CORE = 5
TALLY = 6
WIDEST = 7
ODDS = 8
# For each call, by its number (9 is sure), how many whole numbers it has, and whether a row stands behind them.
FORMS = {0: (0, True), 1: (0, False), 2: (3, False), 3: (3, True), 4: (1, True), 5: (1, True), 6: (2, False),
         7: (2, False), 8: (2, False), 9: (0, False)}


class Holder:
    """The object that the calls of one line are about."""

    def __init__(self):
        self.hold(Grammar(1, []))

    def hold(self, grammar):
        """Holds this grammar from now on."""
        self.grammar = grammar
        self.counts = Counts(grammar)
        self.forests = Forests(grammar, self.counts)

    def text_of(self, octets):
        """The text with these bytes, as a tuple of classes."""
        return tuple([self.grammar.class_of[octet] for octet in octets])

    def octets_of(self, text):
        """The bytes of a text of signs that is given as a tuple of classes."""
        return [self.grammar.signs[number] for number in text]

    def ways_over(self, head, text):
        """In how many ways a nonterminal covers a text; one with a byte of no class isn't covered."""
        return 0 if NO_CLASS in text else self.counts.ways(head, text)

    def texts_told(self, most):
        """All texts of signs of at most so many bytes, in their order."""
        return texts_up_to(len(self.grammar.signs), most)


def answer_load(holder, row):
    """Holds the grammar that the row tells."""
    if any([number < 0 for number in row]):
        return [-1]
    told = read_row(row)
    if told is None:
        return [-2]
    holder.hold(Grammar(told[0], told[1]))
    return [0]


def answer_signs(holder):
    """The signs of the grammar."""
    return [0, len(holder.grammar.signs)] + holder.grammar.signs


def search_from(holder, numbers, text):
    """What a search from this text on finds (None: there is no text to look at)."""
    ended = look_through(holder.counts, len(holder.grammar.signs), text, numbers[0], numbers[1], numbers[2])
    if ended[0] == TRIES_USED:
        return [TRIES_USED]
    if ended[0] == FOUND:
        return [FOUND, ended[1], len(ended[2])] + holder.octets_of(ended[2])
    return [ended[0], ended[1]]


def answer_search(holder, numbers):
    """The first text of signs that is covered in several ways."""
    refusal = search_refusal(holder.grammar, numbers)
    return [refusal] if refusal < 0 else search_from(holder, numbers, ())


def answer_next(holder, numbers, octets):
    """The first such text behind a given one."""
    refusal = next_refusal(holder.grammar, numbers, octets)
    if refusal < 0:
        return [refusal]
    return search_from(holder, numbers, text_behind(holder.text_of(octets), len(holder.grammar.signs), numbers[1]))


def told_ways(ways):
    """A number of ways as it is answered: 0 and the number, or 1 for infinitely many."""
    return [1] if ways == endless() else [0, ways]


def answer_ways(holder, head, octets):
    """In how many ways a nonterminal covers a text."""
    refusal = text_refusal(holder.grammar, head, octets)
    if refusal < 0:
        return [refusal]
    return told_ways(holder.ways_over(head, holder.text_of(octets)))


def told_alternative(alternative):
    """An alternative as it is answered: its rule, how many kids, and these."""
    told = [alternative[0], len(alternative[1])]
    for kid in alternative[1]:
        told.extend(kid)
    return told


def told_core(core):
    """A core as it is answered: its kind, its node and its two alternatives."""
    first = core[1]
    second = core[2]
    kind = 2 if first[0] == second[0] else 1
    return [kind] + list(core[0]) + told_alternative(first) + told_alternative(second)


def answer_core(holder, head, octets):
    """Where two trees of a nonterminal over a text part."""
    refusal = text_refusal(holder.grammar, head, octets)
    if refusal < 0:
        return [refusal]
    text = holder.text_of(octets)
    if holder.ways_over(head, text) == 0:
        return [-8]
    nodes = holder.forests.nodes_over(head, text)
    if nodes is None:
        return [-9]
    core = core_among(nodes)
    return [0] if core is None else [1] + told_core(core)


def answer_tally(holder, numbers):
    """How many texts of signs are covered, and how."""
    refusal = survey_refusal(holder.grammar, numbers)
    if refusal < 0:
        return [refusal]
    return [0] + tally_of(holder.counts, numbers[0], holder.texts_told(numbers[1]))


def answer_widest(holder, numbers):
    """The first text of signs that is covered in the most ways."""
    refusal = survey_refusal(holder.grammar, numbers)
    if refusal < 0:
        return [refusal]
    found = widest_of(holder.counts, numbers[0], holder.texts_told(numbers[1]))
    return [0] + told_ways(found[0]) + [len(found[1])] + holder.octets_of(found[1])


def answer_odds(holder, numbers):
    """The pairs of rules that are at odds."""
    refusal = survey_refusal(holder.grammar, numbers)
    if refusal < 0:
        return [refusal]
    pairs = odds_of(holder.forests, numbers[0], holder.texts_told(numbers[1]))
    told = [0, len(pairs)]
    for pair in pairs:
        told.extend(pair)
    return told


def answer_sure(holder):
    """Whether the grammar's table tells at once that the start covers no text in several ways."""
    sure = is_sure(holder.grammar)
    if sure is None:
        return [-11]
    return [0, 1 if sure else 0]


def answer_call(holder, call, numbers, row):
    """The numbers that are answered to one call."""
    if call == LOAD:
        return answer_load(holder, row)
    if call == SIGNS:
        return answer_signs(holder)
    if call == SEARCH:
        return answer_search(holder, numbers)
    if call == NEXT:
        return answer_next(holder, numbers, row)
    if call == WAYS:
        return answer_ways(holder, numbers[0], row)
    if call == CORE:
        return answer_core(holder, numbers[0], row)
    if call == TALLY:
        return answer_tally(holder, numbers)
    if call == WIDEST:
        return answer_widest(holder, numbers)
    if call == ODDS:
        return answer_odds(holder, numbers)
    return answer_sure(holder)


def answers(calls):
    """For each call, in order, how many numbers are answered, and these."""
    holder = Holder()
    answered = []
    at = 0
    while at < len(calls):
        call = calls[at]
        behind = at + 1 + FORMS[call][0]
        numbers = calls[at + 1:behind]
        row = []
        if FORMS[call][1]:
            at = behind + 1
            behind = at + calls[behind]
            row = calls[at:behind]
        answer = answer_call(holder, call, numbers, row)
        answered.append(len(answer))
        answered.extend(answer)
        at = behind
    return answered
