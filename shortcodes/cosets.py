"""Cosets of a code, their leaders, and the code's words that are nearest to a word.

The distances of a word y from the code's words are the weights of the words of
y's coset. So y's distance from the code is the weight of its coset's leader, and
all words of a coset are equally far from the code.
"""

from shortcodes.codes import by_weight
from shortcodes.codes import dual_of
from shortcodes.codes import reduced
from shortcodes.codes import weight
from shortcodes.codes import words_of


def leader_of(code, y):
    """Give the leader of y's coset."""
    return min([word ^ y for word in words_of(code)], key=by_weight)


def nearest_words(code, y):
    """Give the words of the code that are as near to y as any, the least number first."""
    distance = weight(leader_of(code, y))
    return sorted([word for word in words_of(code) if weight(word ^ y) == distance])


def leaders_of(code):
    """Give a dict with the leader of each coset, under the coset's least number."""
    leaders = {}
    for word in sorted(range(1 << code.n), key=by_weight):
        # Any other word of the coset differs from the reduced one highest at a row's highest bit, so it is greater.
        lowest = reduced(code.rows, word)
        if lowest not in leaders:
            leaders[lowest] = word
    return leaders


def farthest_of(code):
    """Give the greatest distance from the code that a word has, and the least number of such distance."""
    leaders = leaders_of(code)
    distance = max([weight(leader) for leader in leaders.values()])
    return [distance, min([lowest for lowest in leaders if weight(leaders[lowest]) == distance])]


def nearest_never_tie(code):
    """Tell whether each word of n bits has just one nearest word."""
    leaders = leaders_of(code)
    for word in range(1 << code.n):
        leader = leaders[reduced(code.rows, word)]
        if word != leader and weight(word) == weight(leader):
            return False
    return True


def syndrome_of(code, y):
    """Give the number whose bit j is 1 if y shares an odd number of 1s with row j of the dual's form."""
    syndrome = 0
    for j, row in enumerate(dual_of(code).rows):
        if weight(y & row) % 2 == 1:
            syndrome |= 1 << j
    return syndrome
