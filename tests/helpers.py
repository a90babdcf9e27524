"""What the tests of several calls need."""

from fractions import Fraction

REFUSED = [-22]
LARGEST = 4294967295


def words(wanted, unwanted):
    """The list of words that were in so many wanted and so many unwanted letters."""
    return flat(zip(wanted, unwanted, strict=True))


def flat(pairs):
    """The list of these words, each given by its a and b."""
    return [number for pair in pairs for number in pair]


def pairs_of(l):
    """Of each word of the list its a and b."""
    return list(zip(l[0::2], l[1::2], strict=True))


def odds(n, m, l):
    """How many times as great the weight for unwanted is as the one for wanted."""
    answer = Fraction(m + 1, n + 1)
    for a, b in pairs_of(l):
        answer *= Fraction(b + 1, m + 2) / Fraction(a + 1, n + 2)
    return answer


class LockedList(list):
    """A list that can be read, and fails at any change."""

    def refuse_change(self, *_args, **_keywords):
        raise AssertionError("what was handed in is changed")

    append = extend = insert = pop = remove = clear = sort = reverse = refuse_change
    __setitem__ = __delitem__ = __iadd__ = __imul__ = refuse_change
