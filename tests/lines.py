"""Lines of calls for the tests: how they are written, and how their answers are told apart."""

from twotrees.grammars import answers

MOST = 10 ** 60
FAR = 10 ** 18


def grammar_row(nonterminals, rules):
    """A grammar row; a rule is (nonterminal, symbols), a symbol a nonterminal, a letter or a pair of bytes."""
    row = [nonterminals, len(rules)]
    for head, symbols in rules:
        row += [head, len(symbols)]
        for symbol in symbols:
            if isinstance(symbol, int):
                row += [0, symbol]
            elif isinstance(symbol, str):
                row += [1, ord(symbol), ord(symbol)]
            else:
                row += [1, symbol[0], symbol[1]]
    return row


def load_row(row):
    return [0, len(row)] + list(row)


def load(nonterminals, rules):
    return load_row(grammar_row(nonterminals, rules))


def signs():
    return [1]


def search(a, most, tries):
    return [2, a, most, tries]


def octets_of(text):
    return [ord(letter) for letter in text] if isinstance(text, str) else list(text)


def search_behind(a, most, tries, text):
    return [3, a, most, tries, len(text)] + octets_of(text)


def ways(a, text):
    return [4, a, len(text)] + octets_of(text)


def core(a, text):
    return [5, a, len(text)] + octets_of(text)


def tally(a, most):
    return [6, a, most]


def widest(a, most):
    return [7, a, most]


def odds(a, most):
    return [8, a, most]


def sure():
    return [9]


def ask(*calls):
    """The answers to the calls of one line, one list each; the line must be left as it was."""
    line = [number for call in calls for number in call]
    kept = list(line)
    told = answers(line)
    if line != kept:
        raise AssertionError("the list handed in was changed")
    if any(type(number) is not int for number in told):
        raise AssertionError("an answer is no whole number")
    parts = []
    at = 0
    while at < len(told):
        parts.append(told[at + 1:at + 1 + told[at]])
        if len(parts[-1]) != told[at]:
            raise AssertionError("an answer is shorter than told")
        at += 1 + told[at]
    if len(parts) != len(calls):
        raise AssertionError("not as many answers as calls")
    return parts


def ask_of(nonterminals, rules, *calls):
    """The answers to the calls on a grammar."""
    parts = ask(load(nonterminals, rules), *calls)
    if parts[0] != [0]:
        raise AssertionError("the grammar was refused")
    return parts[1:]
