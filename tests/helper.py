"""What the tests share: calls by name, and a slow bench that holds each code as the set of its words."""

from shortcodes.benches import answers

NUMBERS = {
    "put": 1, "form": 2, "dual": 3, "both": 4, "meet": 5, "puncture": 6,
    "shorten": 7, "extend": 8, "beside": 9, "double": 10, "weights": 11, "least": 12,
    "holds": 13, "near": 14, "radius": 15, "leader": 16, "leaders": 17, "syndrome": 18,
    "encode": 19, "decode": 20, "same": 21, "within": 22, "kind": 23, "word": 24,
}
# What stands behind each call's number: slots, a bit's place, n, rows, words, what is encoded, a word's place.
SHAPES = {
    "put": "onr", "form": "o", "dual": "oq", "both": "opq", "meet": "opq", "puncture": "oiq",
    "shorten": "oiq", "extend": "oq", "beside": "opq", "double": "opq", "weights": "o", "least": "o",
    "holds": "ox", "near": "oy", "radius": "o", "leader": "oy", "leaders": "o", "syndrome": "oy",
    "encode": "om", "decode": "oy", "same": "op", "within": "op", "kind": "o", "word": "ok",
}
FILLING = [name for name, shape in SHAPES.items() if name == "put" or "q" in shape]
HUGE = 1000000000000000000
HAMMING = [13, 26, 52, 104]
FORMS = [("form", slot) for slot in range(8)]
NEW_FORMS = [[0, 1] for slot in range(8)]


def written(calls):
    """Write calls such as ("put", 0, 3, [1, 2]) as the one list of numbers that answers takes."""
    numbers = []
    for call in calls:
        numbers.append(NUMBERS[call[0]])
        for part in call[1:]:
            if isinstance(part, list):
                numbers.append(len(part))
                numbers.extend(part)
            else:
                numbers.append(part)
    return numbers


def split(told):
    """Take the answers apart that stand one behind another."""
    parts = []
    place = 0
    while place < len(told):
        end = place + 1 + told[place]
        if told[place] < 1 or end > len(told):
            raise AssertionError(f"no answer of {told[place]} numbers at {place} of {told}")
        parts.append(told[place + 1:end])
        place = end
    return parts


def run(*calls):
    """Give the answers to calls by name, one list each."""
    parts = split(answers(written(calls)))
    if len(parts) != len(calls):
        raise AssertionError(f"{len(parts)} answers to {len(calls)} calls")
    return parts


def last(*calls):
    """Give the answer to the last of these calls."""
    return run(*calls)[-1]


def every(n):
    """Rows of the code of all words of n bits."""
    return [2 ** i for i in range(n)]


def asked(start, calls):
    """Give the answers to the calls, behind the same start in as many lists of 60 calls as they need."""
    told = []
    room = 60 - len(start)
    for place in range(0, len(calls), room):
        told += run(*start, *calls[place:place + room])[len(start):]
    return told


def ones(word):
    return word.bit_count()


def span(rows):
    words = {0}
    for row in rows:
        words |= {word ^ row for word in words}
    return frozenset(words)


def form_by_words(words):
    """The least word to each highest bit: any other with this highest bit has a further row in it."""
    tops = sorted({word.bit_length() for word in words if word}, reverse=True)
    return [min(word for word in words if word.bit_length() == top) for top in tops]


def dual_by_words(n, words):
    return frozenset(x for x in range(2 ** n) if all(ones(x & word) % 2 == 0 for word in words))


def nearest_by_words(words, y):
    """The words that are as near to y as any, the least number first."""
    distance = min(ones(y ^ word) for word in words)
    return sorted(word for word in words if ones(y ^ word) == distance)


def coset_leader(words, y):
    return min((y ^ word for word in words), key=lambda word: (ones(word), word))


def picked(rows, picks):
    """The sum of those rows j for which bit j of picks is 1."""
    total = 0
    for j, row in enumerate(rows):
        if picks & 2 ** j:
            total ^= row
    return total


def turn(n, word):
    """The word with all bits one up and the highest to 0, by its written bits, the highest first."""
    bits = format(word, f"0{n}b")
    return int(bits[1:] + bits[0], 2)


def drop(n, word, i):
    """The word without bit i, by its written bits, the highest first."""
    bits = format(word, f"0{n}b")
    return int(bits[:n - 1 - i] + bits[n - i:], 2)


def all_codes(n):
    """All codes of words of n bits, as sets of words."""
    codes = {frozenset({0})}
    grown = list(codes)
    while grown:
        older = grown.pop()
        for row in range(2 ** n):
            wider = older | {word ^ row for word in older}
            if wider not in codes:
                codes.add(wider)
                grown.append(wider)
    return sorted(codes, key=lambda words: (len(words), sorted(words)))


class Dice:
    """Numbers that look thrown but are the same each time."""

    def __init__(self, seed):
        self.state = seed * 2654435761 + 12345

    def throw(self, sides):
        self.state = (self.state * 6364136223846793005 + 1442695040888963407) % 2 ** 64
        return (self.state >> 33) % sides

    def pick(self, choices):
        return choices[self.throw(len(choices))]

    def rows(self, n, most):
        return [self.throw(2 ** n) for _ in range(self.throw(most + 1))]


def thrown_codes(n, how_many, seed):
    """Rows for codes of n bits, few and many, the same each time."""
    dice = Dice(seed * 100 + n)
    return [dice.rows(n, n) for _ in range(how_many)]


def codes(seed, how_many=25, lengths=range(1, 11)):
    """Pairs of n and rows: the code of 0 alone, that of all words, that of one word of 1s, and thrown ones."""
    pairs = []
    for n in lengths:
        pairs += [(n, []), (n, every(n)), (n, [2 ** n - 1])]
        pairs += [(n, rows) for rows in thrown_codes(n, how_many, seed)]
    return pairs


class SlowBench:
    """The calls as the document's words tell them, over sets of words."""

    def __init__(self):
        self.slots = [(1, frozenset({0})) for _ in range(8)]

    def answer(self, call):
        name, numbers = call[0], call[1:]
        asked = [number for letter, number in zip(SHAPES[name], numbers) if letter in "opq"]
        if any(slot > 7 for slot in asked):
            return [-1]
        return getattr(self, name)(*numbers)

    def lay(self, q, n, words):
        self.slots[q] = (n, frozenset(words))
        return [0, n, len(words).bit_length() - 1]

    def put(self, o, n, rows):
        if not 1 <= n <= 10 or len(rows) > 64 or any(row >= 2 ** n for row in rows):
            return [-1]
        return self.lay(o, n, span(rows))

    def form(self, o):
        n, words = self.slots[o]
        return [0, n] + form_by_words(words)

    def dual(self, o, q):
        n, words = self.slots[o]
        return self.lay(q, n, dual_by_words(n, words))

    def both(self, o, p, q):
        (n, first), (m, second) = self.slots[o], self.slots[p]
        return [-2] if n != m else self.lay(q, n, {a ^ b for a in first for b in second})

    def meet(self, o, p, q):
        (n, first), (m, second) = self.slots[o], self.slots[p]
        return [-2] if n != m else self.lay(q, n, first & second)

    def puncture(self, o, i, q):
        n, words = self.slots[o]
        return [-2] if n == 1 or i >= n else self.lay(q, n - 1, {drop(n, word, i) for word in words})

    def shorten(self, o, i, q):
        n, words = self.slots[o]
        if n == 1 or i >= n:
            return [-2]
        return self.lay(q, n - 1, {drop(n, word, i) for word in words if not word & 2 ** i})

    def extend(self, o, q):
        n, words = self.slots[o]
        return [-2] if n == 10 else self.lay(q, n + 1, {word + ones(word) % 2 * 2 ** n for word in words})

    def beside(self, o, p, q):
        (n, first), (m, second) = self.slots[o], self.slots[p]
        return [-2] if n + m > 10 else self.lay(q, n + m, {a + b * 2 ** n for a in first for b in second})

    def double(self, o, p, q):
        (n, first), (m, second) = self.slots[o], self.slots[p]
        if n != m or n + m > 10:
            return [-2]
        return self.lay(q, n + m, {u + (u ^ v) * 2 ** n for u in first for v in second})

    def weights(self, o):
        n, words = self.slots[o]
        return [0] + [sum(1 for word in words if ones(word) == w) for w in range(n + 1)]

    def least(self, o):
        others = [word for word in self.slots[o][1] if word]
        if not others:
            return [-5]
        weight = min(ones(word) for word in others)
        return [0, weight, min(word for word in others if ones(word) == weight)]

    def holds(self, o, x):
        n, words = self.slots[o]
        return [-1] if x >= 2 ** n else [0, 1 if x in words else 0]

    def near(self, o, y):
        n, words = self.slots[o]
        if y >= 2 ** n:
            return [-1]
        nearest = nearest_by_words(words, y)
        return [0, ones(nearest[0] ^ y), nearest[0], len(nearest)]

    def radius(self, o):
        n, words = self.slots[o]
        distances = [min(ones(y ^ word) for word in words) for y in range(2 ** n)]
        return [0, max(distances), distances.index(max(distances))]

    def leader(self, o, y):
        n, words = self.slots[o]
        return [-1] if y >= 2 ** n else [0, coset_leader(words, y)]

    def leaders(self, o):
        n, words = self.slots[o]
        all_leaders = {coset_leader(words, y) for y in range(2 ** n)}
        return [0] + [sum(1 for word in all_leaders if ones(word) == w) for w in range(n + 1)]

    def syndrome(self, o, y):
        n, words = self.slots[o]
        if y >= 2 ** n:
            return [-1]
        rows = form_by_words(dual_by_words(n, words))
        return [0, sum(2 ** j for j, row in enumerate(rows) if ones(y & row) % 2 == 1)]

    def encode(self, o, m):
        words = self.slots[o][1]
        return [-1] if m >= len(words) else [0, picked(form_by_words(words), m)]

    def decode(self, o, y):
        n, words = self.slots[o]
        if y >= 2 ** n:
            return [-1]
        nearest = nearest_by_words(words, y)[0]
        rows = form_by_words(words)
        sources = [m for m in range(len(words)) if picked(rows, m) == nearest]
        return [0] + sources + [ones(nearest ^ y)]

    def same(self, o, p):
        return [0, 1 if self.slots[o] == self.slots[p] else 0]

    def within(self, o, p):
        (n, first), (m, second) = self.slots[o], self.slots[p]
        return [-2] if n != m else [0, 1 if first <= second else 0]

    def kind(self, o):
        n, words = self.slots[o]
        dual = dual_by_words(n, words)
        kind = 1 if all(ones(word) % 2 == 0 for word in words) else 0
        kind += 2 if all(ones(word) % 4 == 0 for word in words) else 0
        kind += 4 if words <= dual else 0
        kind += 8 if words == dual else 0
        kind += 16 if all(turn(n, word) in words for word in words) else 0
        kind += 32 if all(len(nearest_by_words(words, y)) == 1 for y in range(2 ** n)) else 0
        return [0, kind]

    def word(self, o, k):
        words = self.slots[o][1]
        return [-1] if k >= len(words) else [0, sorted(words)[k]]
