"""The kind of a code: which traits it has, told as one number."""

from shortcodes.codes import dual_of
from shortcodes.codes import has_word
from shortcodes.codes import is_within
from shortcodes.codes import same_codes
from shortcodes.codes import weight
from shortcodes.codes import words_of
from shortcodes.cosets import nearest_never_tie


def weights_are_multiples(code, step):
    """Tell whether the weights of all words are multiples of step."""
    return all([weight(word) % step == 0 for word in words_of(code)])


def turned(n, word):
    """Give the word of n bits with all bits one place up, the highest to place 0."""
    highest = word >> (n - 1)
    rest = word & ((1 << (n - 1)) - 1)
    return (rest << 1) | highest


def stays_when_turned(code):
    """Tell whether with each word the one turned by a place is a word."""
    # A sum turned is the sum of its rows turned, so it is enough to turn the rows.
    return all([has_word(code, turned(code.n, row)) for row in code.rows])


def kind_of(code):
    """Give the number whose bit j is 1 if the code has the j-th trait of this list."""
    dual = dual_of(code)
    traits = [
        weights_are_multiples(code, 2),
        weights_are_multiples(code, 4),
        is_within(code, dual),
        same_codes(code, dual),
        stays_when_turned(code),
        nearest_never_tie(code),
    ]
    return sum([1 << j for j, has_trait in enumerate(traits) if has_trait])
