"""The calls of the program: each answers a list of whole numbers."""

MOST_TAUGHT = 10000
MOST_WORDS = 40
MOST_TIMES = 1000

TOLD_UNWANTED = 2
TOLD_IN_DOUBT = 1
TOLD_WANTED = 0

SAYS_UNWANTED = 2
SAYS_WANTED = 1
SAYS_NEITHER = 0


def chance(n, m, l):
    """How likely a letter is unwanted, in thousandths, rounded down; or a refusal."""
    if not is_letter(n, m, l):
        return refusal()
    wanted, unwanted = weights(n, m, l)
    return [unwanted * 1000 // (wanted + unwanted)]


def told(t, n, m, l):
    """Whether a letter is told unwanted (2), in doubt (1) or wanted (0); or a refusal."""
    if t < 1 or t > MOST_TIMES or not is_letter(n, m, l):
        return refusal()
    wanted, unwanted = weights(n, m, l)
    # Ahead of doubt: with a t of 1, just as likely is enough to be unwanted, and nothing is in doubt.
    if unwanted >= t * wanted:
        return [TOLD_UNWANTED]
    if unwanted > wanted:
        return [TOLD_IN_DOUBT]
    return [TOLD_WANTED]


def says(n, m, a, b):
    """Whether a word says unwanted (2), wanted (1) or neither (0); or a refusal."""
    # A word is refused just where a letter of this one word is.
    if not is_letter(n, m, [a, b]):
        return refusal()
    wanted = word_weight(a, m)
    unwanted = word_weight(b, n)
    if wanted < unwanted:
        return [SAYS_UNWANTED]
    if wanted > unwanted:
        return [SAYS_WANTED]
    return [SAYS_NEITHER]


def order(l):
    """How many words there are, then their places, from 0, the louder ones first; or a refusal."""
    # Nothing tells here how many letters were taught: an a or b may be as great as of any letter.
    if not is_letter(MOST_TAUGHT, MOST_TAUGHT, l):
        return refusal()
    places = []
    for place in range(len(l) // 2):
        places.insert(rank(l, places, place), place)
    return [len(places)] + places


def refusal():
    """The answer to what is out of range: a new list each time, since who gets it may change it."""
    return [-22]


def is_letter(n, m, l):
    """Whether l tells a letter by its words, where n wanted and m unwanted ones were taught."""
    if n > MOST_TAUGHT or m > MOST_TAUGHT:
        return False
    if len(l) % 2 == 1 or len(l) > 2 * MOST_WORDS:
        return False
    for place in range(0, len(l), 2):
        if l[place] > n or l[place + 1] > m:
            return False
    return True


def weights(n, m, l):
    """The letter's weight for wanted, and its weight for unwanted."""
    return weight(n, m, l[0::2]), weight(m, n, l[1::2])


def weight(own, other, letters_with_each):
    """The weight for one side, of which own letters were taught, and other ones of the other side.

    letters_with_each tells of each word in how many of the side's own letters it was.
    """
    product = own + 1
    for letters_with_word in letters_with_each:
        product = product * word_weight(letters_with_word, other)
    return product


def word_weight(letters_with_word, other):
    """How many times as great a word makes the weight for one side."""
    return (letters_with_word + 1) * (other + 2)


def rank(l, places, place):
    """How far behind the word at this place belongs among those that are in order already."""
    for ahead in range(len(places)):
        # Behind those that are just as loud: their places are lesser.
        if is_louder(l, place, places[ahead]):
            return ahead
    return len(places)


def is_louder(l, one, other):
    """Whether the word at the place one is louder than the one at the place other."""
    # Each side is taken times both a + 1, so that nothing is lost by dividing.
    return (l[2 * one + 1] + 1) * (l[2 * other] + 1) > (l[2 * other + 1] + 1) * (l[2 * one] + 1)
