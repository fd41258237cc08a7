"""Words: rows of letters, each as it is or turned over.

The functions that the document lists check what they are passed. Those below
them take what has been checked.
"""

from fromsize.checks import is_list
from fromsize.errors import BadWord

LETTERS = "abcdefghijklmnopqrstuvwxyz"
STROKE = "'"


def is_word(value):
    """Whether a value is a word."""
    return is_list(value) and all([is_string(one) for one in value])


def turned_word(word):
    """The word turned over."""
    return turned_over(need_word(word, "word"))


def round_of(word):
    """The least word of the trace of this word."""
    return least_word(need_word(word, "word"))


def is_letter(value):
    """Whether a value is a letter, without a stroke."""
    return isinstance(value, str) and len(value) == 1 and value in LETTERS


def is_string(value):
    """Whether a value is a letter, as it is or with a stroke."""
    if not isinstance(value, str) or len(value) != 2:
        return is_letter(value)
    return is_letter(value[0]) and value[1] == STROKE


def need_word(value, part):
    """The word as a tuple; what is none is refused."""
    if not is_word(value):
        raise BadWord(part)
    return tuple(value)


def is_turned(string):
    """Whether a string of a word stands for a letter turned over."""
    return len(string) == 2


def turned_over(word):
    """The word turned over."""
    return tuple([string[0] if is_turned(string) else string + STROKE for string in word[::-1]])


def least_word(word):
    """The least of all words that begin this one, or it turned over, at any string and go round."""
    return min(least_turn(word), least_turn(turned_over(word)))


def least_turn(word):
    """The least of all words that begin this one at any string and go round.

    Of two places where it may begin the one that is greater is given up, with
    all that has been compared behind it: so long words take no long time.
    """
    many = len(word)
    one, other, alike = 0, 1, 0
    while other < many and alike < many:
        first = word[(one + alike) % many]
        second = word[(other + alike) % many]
        if first == second:
            alike += 1
        elif first < second:
            other, alike = other + alike + 1, 0
        else:
            one, other, alike = other, max(one + alike, other) + 1, 0
    return word[one:] + word[:one]
