"""Which refusal is due for the arguments of a call: its number, or 0 if none is."""

from twotrees.rows import LAST_BYTE
from twotrees.texts import number_of_texts

MOST_BYTES = 24
LONGEST_SEARCHED = 8
MOST_TRIES = 300
MOST_SURVEYED = 300


def bytes_refusal(octets):
    """The refusal for a list of bytes."""
    if any([octet < 0 or octet > LAST_BYTE for octet in octets]):
        return -1
    return -3 if len(octets) > MOST_BYTES else 0


def head_refusal(grammar, head):
    """The refusal for a nonterminal."""
    return 0 if 0 <= head < grammar.nonterminals else -4


def text_refusal(grammar, head, octets):
    """The refusal for a nonterminal and a text, as ways and core take them."""
    refusal = bytes_refusal(octets)
    return head_refusal(grammar, head) if refusal == 0 else refusal


def length_refusal(grammar, numbers):
    """The refusal for a nonterminal and a greatest length, the first of the numbers."""
    refusal = head_refusal(grammar, numbers[0])
    if refusal == 0 and not 0 <= numbers[1] <= LONGEST_SEARCHED:
        refusal = -5
    return refusal


def search_refusal(grammar, numbers):
    """The refusal for the whole numbers of a search."""
    refusal = length_refusal(grammar, numbers)
    if refusal == 0 and not 0 <= numbers[2] <= MOST_TRIES:
        refusal = -6
    return refusal


def next_refusal(grammar, numbers, octets):
    """The refusal for a search behind a text."""
    refusal = bytes_refusal(octets)
    if refusal == 0:
        refusal = search_refusal(grammar, numbers)
    if refusal == 0 and any([octet not in grammar.signs for octet in octets]):
        refusal = -7
    return refusal


def survey_refusal(grammar, numbers):
    """The refusal for the whole numbers of tally, widest and odds."""
    refusal = length_refusal(grammar, numbers)
    if refusal == 0 and number_of_texts(len(grammar.signs), numbers[1]) > MOST_SURVEYED:
        refusal = -10
    return refusal
