"""Answers to a line of calls on one object, which holds a grammar."""

from twotrees.classes import Grammar, NO_CLASS
from twotrees.counts import Counts, endless
from twotrees.rows import LAST_BYTE, read_row
from twotrees.states import is_sure
from twotrees.texts import FOUND, TRIES_USED, look_through, text_behind

MOST_BYTES = 24
LONGEST_SEARCHED = 8
MOST_TRIES = 300

LOAD = 0
SIGNS = 1
SEARCH = 2
NEXT = 3
WAYS = 4
# For each call, by its number (9 is sure), how many whole numbers it has, and whether a row stands behind them.
FORMS = {0: (0, True), 1: (0, False), 2: (3, False), 3: (3, True), 4: (1, True), 9: (0, False)}


class Holder:
    """The object that the calls of one line are about."""

    def __init__(self):
        self.hold(Grammar(1, []))

    def hold(self, grammar):
        """Holds this grammar from now on."""
        self.grammar = grammar
        self.counts = Counts(grammar)


def bytes_refusal(octets):
    """The refusal that is due for a list of bytes, or 0."""
    if any([octet < 0 or octet > LAST_BYTE for octet in octets]):
        return -1
    return -3 if len(octets) > MOST_BYTES else 0


def head_refusal(grammar, head):
    """The refusal that is due for a nonterminal, or 0."""
    return 0 if 0 <= head < grammar.nonterminals else -4


def search_refusal(grammar, numbers):
    """The refusal that is due for the whole numbers of a search, or 0."""
    refusal = head_refusal(grammar, numbers[0])
    if refusal == 0 and not 0 <= numbers[1] <= LONGEST_SEARCHED:
        refusal = -5
    if refusal == 0 and not 0 <= numbers[2] <= MOST_TRIES:
        refusal = -6
    return refusal


def next_refusal(grammar, numbers, octets):
    """The refusal that is due for a search behind a text, or 0."""
    refusal = bytes_refusal(octets)
    if refusal == 0:
        refusal = search_refusal(grammar, numbers)
    if refusal == 0 and any([octet not in grammar.signs for octet in octets]):
        refusal = -7
    return refusal


def ways_refusal(grammar, head, octets):
    """The refusal that is due for counting the ways of a text, or 0."""
    refusal = bytes_refusal(octets)
    return head_refusal(grammar, head) if refusal == 0 else refusal


def answer_load(holder, row):
    """Holds the grammar that the row tells."""
    if any([number < 0 for number in row]):
        return [-1]
    told = read_row(row)
    if told is None:
        return [-2]
    holder.hold(Grammar(told[0], told[1]))
    return [0]


def answer_signs(holder):
    """The signs of the grammar."""
    return [0, len(holder.grammar.signs)] + holder.grammar.signs


def search_from(holder, numbers, text):
    """What a search from this text on finds; None if there is no text to look at."""
    signs = holder.grammar.signs
    ended = look_through(holder.counts, len(signs), text, numbers[0], numbers[1], numbers[2])
    if ended[0] == TRIES_USED:
        return [TRIES_USED]
    if ended[0] == FOUND:
        return [FOUND, ended[1], len(ended[2])] + [signs[number] for number in ended[2]]
    return [ended[0], ended[1]]


def answer_search(holder, numbers):
    """The first text of signs that is covered in several ways."""
    refusal = search_refusal(holder.grammar, numbers)
    return [refusal] if refusal < 0 else search_from(holder, numbers, ())


def answer_next(holder, numbers, octets):
    """The first such text behind a given one."""
    grammar = holder.grammar
    refusal = next_refusal(grammar, numbers, octets)
    if refusal < 0:
        return [refusal]
    text = tuple([grammar.class_of[octet] for octet in octets])
    return search_from(holder, numbers, text_behind(text, len(grammar.signs), numbers[1]))


def answer_ways(holder, head, octets):
    """In how many ways a nonterminal covers a text."""
    grammar = holder.grammar
    refusal = ways_refusal(grammar, head, octets)
    if refusal < 0:
        return [refusal]
    text = tuple([grammar.class_of[octet] for octet in octets])
    if NO_CLASS in text:
        return [0, 0]
    ways = holder.counts.ways(head, text)
    return [1] if ways == endless() else [0, ways]


def answer_sure(holder):
    """Whether the grammar's table tells at once that the start covers no text in several ways."""
    sure = is_sure(holder.grammar)
    if sure is None:
        return [-11]
    return [0, 1 if sure else 0]


def answer_call(holder, call, numbers, row):
    """The numbers that are answered to one call."""
    if call == LOAD:
        return answer_load(holder, row)
    if call == SIGNS:
        return answer_signs(holder)
    if call == SEARCH:
        return answer_search(holder, numbers)
    if call == NEXT:
        return answer_next(holder, numbers, row)
    if call == WAYS:
        return answer_ways(holder, numbers[0], row)
    return answer_sure(holder)


def answers(calls):
    """For each call, in order, how many numbers are answered, and these."""
    holder = Holder()
    answered = []
    at = 0
    while at < len(calls):
        call = calls[at]
        behind = at + 1 + FORMS[call][0]
        numbers = calls[at + 1:behind]
        row = []
        if FORMS[call][1]:
            at = behind + 1
            behind = at + calls[behind]
            row = calls[at:behind]
        answer = answer_call(holder, call, numbers, row)
        answered.append(len(answer))
        answered.extend(answer)
        at = behind
    return answered
