"""What the tests of several calls need."""

REFUSED = [-22]
LARGEST = 4294967295


def words(wanted, unwanted):
    """The list of words that were in so many wanted and so many unwanted letters."""
    return [number for pair in zip(wanted, unwanted, strict=True) for number in pair]


class LockedList(list):
    """A list that can be read, and fails at any change."""

    def refuse_change(self, *_args, **_keywords):
        raise AssertionError("what was handed in is changed")

    append = extend = insert = pop = remove = clear = sort = reverse = refuse_change
    __setitem__ = __delitem__ = __iadd__ = __imul__ = refuse_change
