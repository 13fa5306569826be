"""Words, codes of rows, and new codes made of old ones.

A word of n bits is a whole number below 1 << n; bit i counts 1 << i.
Nothing here changes a code once it is made, so codes may be shared.
"""


class Code:
    """All sums of the rows, which are words of n bits; rows is kept as the code's form."""

    def __init__(self, n, rows):
        self.n = n
        self.rows = form_of(rows)


def weight(word):
    """Give how many bits of the word are 1."""
    ones = 0
    while word > 0:
        ones += word & 1
        word >>= 1
    return ones


def by_weight(word):
    """Give what orders words by weight, and those of one weight by number."""
    return (weight(word), word)


def has_bit(word, i):
    """Tell whether bit i of the word is 1."""
    return ((word >> i) & 1) == 1


def without_bit(word, i):
    """Give the word with bit i left out and the bits above it one place further down."""
    lower = word & ((1 << i) - 1)
    upper = word >> (i + 1)
    return lower | (upper << i)


def highest_place(word):
    """Give the place of the highest 1 of a word that is not 0."""
    return word.bit_length() - 1


def reduced(form, word):
    """Give the one sum of the word and rows of the form in which each row's highest bit is 0.

    It is 0 just if the word is a sum of the rows.
    """
    for row in form:
        if has_bit(word, highest_place(row)):
            word ^= row
    return word


def form_with(form, row):
    """Give the form of the code that has the form's rows and one row more."""
    rest = reduced(form, row)
    if rest == 0:
        return form
    # A row that has rest's highest bit has a higher one itself, which the sum keeps.
    rows = [reduced([rest], older) for older in form]
    return sorted(rows + [rest], reverse=True)


def form_of(rows):
    """Give the form of the code of these rows."""
    form = []
    for row in rows:
        form = form_with(form, row)
    return form


def words_of(code):
    """Give all words of the code, each once."""
    words = [0]
    for row in code.rows:
        words = words + [word ^ row for word in words]
    return words


def has_word(code, word):
    """Tell whether the word is one of the code's."""
    return reduced(code.rows, word) == 0


def same_codes(first, second):
    """Tell whether both have the same n and the same words."""
    return first.n == second.n and first.rows == second.rows


def is_within(first, second):
    """Tell whether each word of the first is one of the second, which has the same n."""
    # Sums of the second's words are its words too, so it is enough to ask for the rows.
    return all([has_word(second, row) for row in first.rows])


def sum_of_picked(code, picks):
    """Give the sum of those rows j of the form for which bit j of picks is 1."""
    total = 0
    for j, row in enumerate(code.rows):
        if has_bit(picks, j):
            total ^= row
    return total


def picks_of(code, word):
    """Give the picks of the rows whose sum is this word of the code."""
    # No other row has a row's highest bit, so the sum has it just if that row is picked.
    picks = 0
    for j, row in enumerate(code.rows):
        if has_bit(word, highest_place(row)):
            picks |= 1 << j
    return picks


def dual_of(code):
    """Give the code of all words that share an even number of 1s with each word of this one."""
    highest = [highest_place(row) for row in code.rows]
    return Code(code.n, [dual_row(code, i) for i in range(code.n) if i not in highest])


def dual_row(code, i):
    """Give the word of the dual that has bit i and else only highest bits of the form's rows.

    A row that has bit i shares just that bit and its own highest bit with it, any other row none.
    """
    word = 1 << i
    for row in code.rows:
        if has_bit(row, i):
            word |= 1 << highest_place(row)
    return word


def both_of(first, second):
    """Give the code of all sums of a word of the first and one of the second."""
    return Code(first.n, first.rows + second.rows)


def meet_of(first, second):
    """Give the code of the words that both have."""
    return Code(first.n, [word for word in words_of(first) if has_word(second, word)])


def punctured(code, i):
    """Give the code of all words without bit i."""
    return Code(code.n - 1, [without_bit(row, i) for row in code.rows])


def shortened(code, i):
    """Give the code of those words that have bit i 0, without it."""
    return Code(code.n - 1, [without_bit(word, i) for word in words_of(code) if not has_bit(word, i)])


def extended(code):
    """Give the code of all words with one bit more on top, by which all weights are even."""
    # The sum of two words of even weight has even weight, so it is enough to extend the rows.
    return Code(code.n + 1, [row | ((weight(row) % 2) << code.n) for row in code.rows])


def beside_of(first, second):
    """Give the code of all words with a word of the first below and one of the second above."""
    return Code(first.n + second.n, first.rows + [row << first.n for row in second.rows])


def doubled(first, second):
    """Give the code of all words with a word u of the first below, and above the sum of u and one of the second."""
    n = first.n
    return Code(n + n, [row | (row << n) for row in first.rows] + [row << n for row in second.rows])


def counts_by_weight(n, words):
    """Give how many of these words of n bits have weight 0, 1, up to n."""
    counts = [0 for place in range(n + 1)]
    for word in words:
        counts[weight(word)] += 1
    return counts
