"""All texts of signs, and programs that tell the same at each of them."""

from lookingnets.errors import BadPair, TooMany

MOST_TEXTS = 5000


def count_texts(signs, n):
    """The number of all texts of so many signs with 1 to n places."""
    count = 0
    texts = 1
    for _ in range(n):
        texts = texts * signs
        count = count + texts
    return count


def all_texts(signs, n):
    """All texts of so many signs with 1 to n places, shorter ones first."""
    count = count_texts(signs, n)
    if count > MOST_TEXTS:
        raise TooMany("texts", count)
    texts = [()]
    for _ in range(n):
        texts = [text + (sign,) for text in texts for sign in range(signs)]
        for text in texts:
            yield text


def first_difference(p, q):
    """The first text at which two programs tell different values; None if they are alike."""
    if p.signs != q.signs:
        raise BadPair("signs")
    if p.n != q.n:
        raise BadPair("places")
    for text in all_texts(p.signs, p.n):
        if p(text) != q(text):
            return text
    return None


def alike(p, q):
    """Whether two programs tell the same values at each text."""
    return first_difference(p, q) is None
