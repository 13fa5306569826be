"""A bench of eight slots with a code in each, and the calls that are made on it.

Each call has a function here that takes the slots and the call's numbers and
gives what the call answers: 0 and what is told, or a refusal, its number alone.
A refusal is given ahead of any change, -1 ahead of -2.
"""

from shortcodes.codes import Code
from shortcodes.codes import beside_of
from shortcodes.codes import both_of
from shortcodes.codes import by_weight
from shortcodes.codes import counts_by_weight
from shortcodes.codes import doubled
from shortcodes.codes import dual_of
from shortcodes.codes import extended
from shortcodes.codes import has_word
from shortcodes.codes import is_within
from shortcodes.codes import meet_of
from shortcodes.codes import picks_of
from shortcodes.codes import punctured
from shortcodes.codes import same_codes
from shortcodes.codes import shortened
from shortcodes.codes import sum_of_picked
from shortcodes.codes import weight
from shortcodes.codes import words_of
from shortcodes.cosets import farthest_of
from shortcodes.cosets import leader_of
from shortcodes.cosets import leaders_of
from shortcodes.cosets import nearest_words
from shortcodes.cosets import syndrome_of
from shortcodes.kinds import kind_of

LAST_SLOT = 7
MOST_BITS = 10
MOST_ROWS = 64
PUT = 1


def placed(slots, q, code):
    """Put the code into slot q, and give what is told of it."""
    slots[q] = code
    return [0, code.n, len(code.rows)]


def answer_put(slots, o, n, rows):
    if o > LAST_SLOT or n < 1 or n > MOST_BITS or len(rows) > MOST_ROWS:
        return [-1]
    if max(rows, default=0) >= 1 << n:
        return [-1]
    return placed(slots, o, Code(n, rows))


def answer_form(slots, o):
    if o > LAST_SLOT:
        return [-1]
    return [0, slots[o].n] + slots[o].rows


def answer_dual(slots, o, q):
    if max(o, q) > LAST_SLOT:
        return [-1]
    return placed(slots, q, dual_of(slots[o]))


def answer_both(slots, o, p, q):
    if max(o, p, q) > LAST_SLOT:
        return [-1]
    if slots[o].n != slots[p].n:
        return [-2]
    return placed(slots, q, both_of(slots[o], slots[p]))


def answer_meet(slots, o, p, q):
    if max(o, p, q) > LAST_SLOT:
        return [-1]
    if slots[o].n != slots[p].n:
        return [-2]
    return placed(slots, q, meet_of(slots[o], slots[p]))


def can_lose_bit(code, i):
    """Tell whether bit i can be left out of the code's words, and a bit stays."""
    return code.n > 1 and i < code.n


def answer_puncture(slots, o, i, q):
    if max(o, q) > LAST_SLOT:
        return [-1]
    if not can_lose_bit(slots[o], i):
        return [-2]
    return placed(slots, q, punctured(slots[o], i))


def answer_shorten(slots, o, i, q):
    if max(o, q) > LAST_SLOT:
        return [-1]
    if not can_lose_bit(slots[o], i):
        return [-2]
    return placed(slots, q, shortened(slots[o], i))


def answer_extend(slots, o, q):
    if max(o, q) > LAST_SLOT:
        return [-1]
    if slots[o].n == MOST_BITS:
        return [-2]
    return placed(slots, q, extended(slots[o]))


def answer_beside(slots, o, p, q):
    if max(o, p, q) > LAST_SLOT:
        return [-1]
    if slots[o].n + slots[p].n > MOST_BITS:
        return [-2]
    return placed(slots, q, beside_of(slots[o], slots[p]))


def answer_double(slots, o, p, q):
    if max(o, p, q) > LAST_SLOT:
        return [-1]
    if slots[o].n != slots[p].n or slots[o].n + slots[p].n > MOST_BITS:
        return [-2]
    return placed(slots, q, doubled(slots[o], slots[p]))


def answer_weights(slots, o):
    if o > LAST_SLOT:
        return [-1]
    return [0] + counts_by_weight(slots[o].n, words_of(slots[o]))


def answer_least(slots, o):
    if o > LAST_SLOT:
        return [-1]
    others = [word for word in words_of(slots[o]) if word > 0]
    if len(others) == 0:
        return [-5]
    word = min(others, key=by_weight)
    return [0, weight(word), word]


def lacks_word(slots, o, y):
    """Tell whether there is no slot o, or y is no word of as many bits as its code's words have."""
    return o > LAST_SLOT or y >= 1 << slots[o].n


def lacks_place(slots, o, k):
    """Tell whether there is no slot o, or its code has no more than k words."""
    return o > LAST_SLOT or k >= 1 << len(slots[o].rows)


def answer_holds(slots, o, x):
    if lacks_word(slots, o, x):
        return [-1]
    return [0, int(has_word(slots[o], x))]


def answer_near(slots, o, y):
    if lacks_word(slots, o, y):
        return [-1]
    words = nearest_words(slots[o], y)
    return [0, weight(words[0] ^ y), words[0], len(words)]


def answer_radius(slots, o):
    if o > LAST_SLOT:
        return [-1]
    return [0] + farthest_of(slots[o])


def answer_leader(slots, o, y):
    if lacks_word(slots, o, y):
        return [-1]
    return [0, leader_of(slots[o], y)]


def answer_leaders(slots, o):
    if o > LAST_SLOT:
        return [-1]
    leaders = leaders_of(slots[o])
    return [0] + counts_by_weight(slots[o].n, list(leaders.values()))


def answer_syndrome(slots, o, y):
    if lacks_word(slots, o, y):
        return [-1]
    return [0, syndrome_of(slots[o], y)]


def answer_encode(slots, o, m):
    if lacks_place(slots, o, m):
        return [-1]
    return [0, sum_of_picked(slots[o], m)]


def answer_decode(slots, o, y):
    if lacks_word(slots, o, y):
        return [-1]
    nearest = nearest_words(slots[o], y)[0]
    return [0, picks_of(slots[o], nearest), weight(nearest ^ y)]


def answer_same(slots, o, p):
    if max(o, p) > LAST_SLOT:
        return [-1]
    return [0, int(same_codes(slots[o], slots[p]))]


def answer_within(slots, o, p):
    if max(o, p) > LAST_SLOT:
        return [-1]
    if slots[o].n != slots[p].n:
        return [-2]
    return [0, int(is_within(slots[o], slots[p]))]


def answer_kind(slots, o):
    if o > LAST_SLOT:
        return [-1]
    return [0, kind_of(slots[o])]


def answer_word(slots, o, k):
    if lacks_place(slots, o, k):
        return [-1]
    return [0, sorted(words_of(slots[o]))[k]]


# The calls but put, by how many numbers stand behind the call's own.
CALLS_OF_ONE = {
    2: answer_form,
    11: answer_weights,
    12: answer_least,
    15: answer_radius,
    17: answer_leaders,
    23: answer_kind,
}
CALLS_OF_TWO = {
    3: answer_dual,
    8: answer_extend,
    13: answer_holds,
    14: answer_near,
    16: answer_leader,
    18: answer_syndrome,
    19: answer_encode,
    20: answer_decode,
    21: answer_same,
    22: answer_within,
    24: answer_word,
}
CALLS_OF_THREE = {
    4: answer_both,
    5: answer_meet,
    6: answer_puncture,
    7: answer_shorten,
    9: answer_beside,
    10: answer_double,
}


def end_of_call(calls, start):
    """Give the place behind the call that starts at this place."""
    number = calls[start]
    if number == PUT:
        return start + 4 + calls[start + 3]
    if number in CALLS_OF_ONE:
        return start + 2
    if number in CALLS_OF_TWO:
        return start + 3
    return start + 4


def answer_call(slots, call):
    """Carry out one call, its number first, and give what it answers."""
    number = call[0]
    if number == PUT:
        return answer_put(slots, call[1], call[2], call[4:])
    if number in CALLS_OF_ONE:
        answer_one = CALLS_OF_ONE[number]
        return answer_one(slots, call[1])
    if number in CALLS_OF_TWO:
        answer_two = CALLS_OF_TWO[number]
        return answer_two(slots, call[1], call[2])
    answer_three = CALLS_OF_THREE[number]
    return answer_three(slots, call[1], call[2], call[3])


def answers(calls):
    """Carry out the calls on a new bench, and give each one's answer with how many numbers it has before it."""
    slots = [Code(1, []) for slot in range(LAST_SLOT + 1)]
    told = []
    start = 0
    while start < len(calls):
        end = end_of_call(calls, start)
        answer = answer_call(slots, calls[start:end])
        told.append(len(answer))
        told.extend(answer)
        start = end
    return told
