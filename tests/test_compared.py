"""All calls compared with the slow bench, which holds each code as the set of its words."""

import unittest

from tests.helper import Dice, HUGE, NUMBERS, SHAPES, SlowBench, all_codes, asked, codes, run, span

ONE_HALF = [name for name, number in NUMBERS.items() if number <= 12]
OTHER_HALF = [name for name, number in NUMBERS.items() if number > 12]


class Compared(unittest.TestCase):
    def check(self, calls):
        self.assertLessEqual(len(calls), 60)
        bench = SlowBench()
        for call, told in zip(calls, run(*calls)):
            self.assertEqual(told, bench.answer(call), (call, calls))

    def check_each(self, put, calls):
        """The calls only tell, so that they can come in as many lists as they need behind the same put."""
        bench = SlowBench()
        bench.answer(put)
        for call, told in zip(calls, asked([put], calls)):
            self.assertEqual(told, bench.answer(call), (put, call))


class SmallCodes(Compared):
    def test_what_is_made_of_all_codes_of_up_to_four_bits(self):
        for n in range(1, 5):
            for words in all_codes(n):
                calls = [("form", 0), ("weights", 0), ("least", 0)]
                calls += [("dual", 0, 1), ("form", 1), ("extend", 0, 2), ("form", 2)]
                for i in range(n + 1):
                    calls += [("puncture", 0, i, 3), ("form", 3), ("shorten", 0, i, 4), ("form", 4)]
                self.check([("put", 0, n, sorted(words))] + calls)

    def test_what_is_told_of_all_codes_of_up_to_four_bits(self):
        for n in range(1, 5):
            for words in all_codes(n):
                calls = [("radius", 0), ("leaders", 0), ("kind", 0)]
                for number in range(2 ** n + 2):
                    for name in ("holds", "near", "leader", "syndrome", "encode", "decode", "word"):
                        calls.append((name, 0, number))
                self.check_each(("put", 0, n, sorted(words)), calls)

    def test_all_pairs_of_codes_of_up_to_three_bits(self):
        pairs = [(n, sorted(words)) for n in range(1, 4) for words in all_codes(n)]
        for n, first in pairs:
            for m, second in pairs:
                calls = [("put", 0, n, first), ("put", 1, m, second), ("same", 0, 1), ("within", 0, 1)]
                for name in ("both", "meet", "beside", "double"):
                    calls += [(name, 0, 1, 2), ("form", 2)]
                self.check(calls)


class LargerCodes(Compared):
    def test_what_is_told_of_a_code(self):
        dice = Dice(20)
        for n, rows in codes(20, how_many=12):
            calls = [("radius", 0), ("leaders", 0), ("kind", 0), ("same", 0, 0), ("within", 0, 0)]
            for _ in range(6):
                y = dice.throw(2 ** n)
                calls += [("holds", 0, y), ("near", 0, y), ("leader", 0, y), ("syndrome", 0, y), ("decode", 0, y)]
                picks = dice.throw(len(span(rows)))
                calls += [("encode", 0, picks), ("word", 0, picks)]
            self.check([("put", 0, n, rows)] + calls)

    def test_all_words_of_ten_bits_against_one_code(self):
        put = ("put", 0, 10, [793, 438, 108, 55])
        for name in ("near", "leader", "decode", "holds"):
            self.check_each(put, [(name, 0, y) for y in range(1024)])
        # Slow to compare: the slow bench makes the dual anew each time.
        self.check_each(put, [("syndrome", 0, y) for y in range(0, 1024, 5)])

    def test_all_places_of_a_code_with_many_words(self):
        put = ("put", 0, 10, [793, 438, 108, 55, 600, 3, 129])
        self.check_each(put, [("word", 0, k) for k in range(130)])
        self.check_each(put, [("encode", 0, m) for m in range(130)])


class Lines(Compared):
    def test_thrown_lines_of_sixty_calls(self):
        for seed in range(200):
            dice = Dice(seed)
            base = seed % 10 + 1
            calls = [("put", slot, base, dice.rows(base, 4)) for slot in range(8)]
            self.check(calls + [thrown_call(dice, base, ["put", "put", "put"] + sorted(NUMBERS)) for _ in range(52)])

    def test_lines_in_which_calls_of_both_halves_take_turns(self):
        for seed in range(100):
            dice = Dice(1000 + seed)
            base = seed % 10 + 1
            calls = []
            for _ in range(30):
                calls += [thrown_call(dice, base, ["put"] * 4 + ONE_HALF), thrown_call(dice, base, OTHER_HALF)]
            self.check(calls)

    def test_each_call_behind_each_other(self):
        for first in NUMBERS:
            calls = [("put", slot, 4, [slot + 1, 9]) for slot in range(8)]
            for second in NUMBERS:
                calls += [plain_call(first), plain_call(second)]
            self.check(calls[:8] + calls[8:32])
            self.check(calls[:8] + calls[32:])


def plain_call(name):
    parts = {"o": 1, "p": 2, "q": 3, "i": 2, "n": 4, "r": [7, 11], "x": 6, "y": 13, "m": 2, "k": 3}
    return (name, *[parts[letter] for letter in SHAPES[name]])


def thrown_call(dice, base, names):
    """The numbers mostly go with codes of base bits, which most slots hold."""
    name = dice.pick(names)
    n = dice.throw(12) if dice.throw(4) == 0 else base
    parts = {"i": dice.throw(base + 1), "n": n, "r": dice.rows(min(n, 10), 5)}
    for letter in "xymk":
        parts[letter] = thrown_number(dice, base)
    return (name, *[parts[letter] if letter in parts else thrown_slot(dice) for letter in SHAPES[name]])


def thrown_number(dice, base):
    """Small ones are as frequent as large ones, so that few rows are often enough for them."""
    if dice.throw(30) == 0:
        return dice.pick([HUGE, 1024, 2 ** base])
    return dice.throw(2 ** dice.throw(base + 1))


def thrown_slot(dice):
    return 8 if dice.throw(60) == 0 else dice.throw(8)


if __name__ == "__main__":
    unittest.main()
