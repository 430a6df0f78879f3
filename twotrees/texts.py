"""The texts of signs in their order, and the first of them that is covered in several ways."""

NONE_LEFT = 0
FOUND = 1
TRIES_USED = 2


def text_behind(text, signs, most):
    """The text behind this one, both as tuples of classes; None if none of at most most bytes is left."""
    numbers = list(text)
    at = len(numbers) - 1
    while at >= 0 and numbers[at] == signs - 1:
        numbers[at] = 0
        at -= 1
    if at >= 0:
        numbers[at] += 1
    else:
        numbers.append(0)
    return tuple(numbers) if signs > 0 and len(numbers) <= most else None


def number_of_texts(signs, most):
    """How many texts of signs of at most most bytes there are."""
    of_size = 1
    total = 1
    for size in range(most):
        of_size *= signs
        total += of_size
    return total


def texts_up_to(signs, most):
    """All texts of at most most bytes in their order, as tuples of classes."""
    texts = [()]
    while texts[-1] is not None:
        texts.append(text_behind(texts[-1], signs, most))
    return texts[:-1]


def look_through(counts, signs, text, head, most, tries):
    """Looks at texts from this one on (None: there is none): how it ended, how many were looked at, and the last."""
    looked = 0
    while text is not None:
        if looked == tries:
            return (TRIES_USED, looked, text)
        looked += 1
        if counts.ways(head, text) > 1:
            return (FOUND, looked, text)
        text = text_behind(text, signs, most)
    return (NONE_LEFT, looked, text)
