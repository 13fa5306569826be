"""P2, P3, P5 and P6 over many codes."""

import unittest
from math import comb

from tests.helper import Dice, HAMMING, last, run, thrown_codes

LENGTHS = range(1, 11)


def kraw(n, j, i):
    """K(j, i) as P2 tells it."""
    return sum((-1) ** s * comb(i, s) * comb(n - i, j - s) for s in range(j + 1))


def codes(seed, how_many=25, lengths=LENGTHS):
    """Pairs of n and rows: the code of 0 alone, that of all words, and thrown ones."""
    pairs = []
    for n in lengths:
        pairs += [(n, []), (n, [2 ** i for i in range(n)]), (n, [2 ** n - 1])]
        pairs += [(n, rows) for rows in thrown_codes(n, how_many, seed)]
    return pairs


def least(*calls):
    """The least distance of slot 0 behind these calls, None where there is none but 0."""
    told = last(*calls, ("least", 0))
    return None if told == [-5] else told[1]


def lesser(first, second):
    """The lesser of two distances, of which either may not be there."""
    return min([distance for distance in (first, second) if distance is not None], default=None)


class P2Weights(unittest.TestCase):
    def test_weights_of_code_and_dual_agree(self):
        for n, rows in codes(2) + [(7, HAMMING), (8, [15, 51, 85, 255]), (10, [31, 992])]:
            told = run(("put", 0, n, rows), ("weights", 0), ("dual", 0, 1), ("weights", 1))
            a, b = told[1][1:], told[3][1:]
            self.assertEqual((len(a), len(b)), (n + 1, n + 1))
            for j in range(n + 1):
                self.assertEqual(sum(a) * b[j], sum(a[i] * kraw(n, j, i) for i in range(n + 1)), (n, rows, j))

    def test_so_many_words_as_the_rows_make(self):
        for n, rows in codes(3):
            told = run(("put", 0, n, rows), ("weights", 0), ("dual", 0, 1))
            self.assertEqual(sum(told[1][1:]), 2 ** told[0][2])
            self.assertEqual(told[0][2] + told[2][2], n)


class P3Form(unittest.TestCase):
    def same_form(self, n, rows, others):
        told = run(("put", 0, n, rows), ("put", 1, n, others), ("form", 0), ("form", 1))
        self.assertEqual(told[0], told[1], (n, rows, others))
        self.assertEqual(told[2], told[3], (n, rows, others))

    def test_rows_in_another_order(self):
        for n, rows in codes(4):
            self.same_form(n, rows, rows[::-1])
            self.same_form(n, rows, sorted(rows))
            self.same_form(n, rows, rows[1:] + rows[:1])

    def test_rows_otherwise_combined(self):
        dice = Dice(5)
        for n, rows in codes(5):
            others = list(rows)
            for _ in range(12):
                target, source = dice.throw(len(rows) or 1), dice.throw(len(rows) or 1)
                if target != source:
                    others[target] ^= others[source]
            self.same_form(n, rows, others)

    def test_the_forms_rows_have_the_same_form(self):
        for n, rows in codes(6):
            self.same_form(n, rows, last(("put", 0, n, rows), ("form", 0))[2:])

    def test_another_code_has_another_form(self):
        forms = [last(("put", 0, 3, rows), ("form", 0)) for rows in ([], [1], [2], [3], [4], [5], [6], [7], [1, 2], [1, 4])]
        for place, form in enumerate(forms):
            self.assertNotIn(form, forms[:place])


class P3Dual(unittest.TestCase):
    def test_the_duals_dual_is_the_code(self):
        for n, rows in codes(7):
            told = run(("put", 0, n, rows), ("form", 0), ("dual", 0, 1), ("dual", 1, 1), ("form", 1), ("form", 0))
            self.assertEqual(told[4], told[1], (n, rows))
            self.assertEqual(told[5], told[1], (n, rows))

    def test_sums_and_common_words(self):
        dice = Dice(8)
        for n, rows in codes(8):
            start = [("put", 0, n, rows), ("put", 1, n, dice.rows(n, n)), ("dual", 0, 2), ("dual", 1, 3)]
            for one, other in (("both", "meet"), ("meet", "both")):
                told = run(*start, (one, 0, 1, 4), ("dual", 4, 4), ("form", 4), (other, 2, 3, 5), ("form", 5))
                self.assertEqual(told[6], told[8], (n, rows, one))

    def test_punctured_and_shortened(self):
        for n, rows in codes(9, lengths=range(2, 11)):
            for i in range(n):
                for one, other in (("puncture", "shorten"), ("shorten", "puncture")):
                    told = run(("put", 0, n, rows), (one, 0, i, 1), ("dual", 1, 1), ("form", 1),
                               ("dual", 0, 2), (other, 2, i, 2), ("form", 2))
                    self.assertEqual(told[3], told[6], (n, rows, i, one))


class P5Rows(unittest.TestCase):
    def same_answers(self, n, rows, others):
        behind = [("form", 0), ("weights", 0), ("least", 0), ("dual", 0, 1), ("form", 1), ("form", 0)]
        if n > 1:
            behind += [("puncture", 0, n // 2, 2), ("form", 2), ("shorten", 0, n // 2, 2), ("form", 2)]
        self.assertEqual(run(("put", 0, n, rows), *behind), run(("put", 0, n, others), *behind), (n, rows, others))

    def test_rows_that_are_0(self):
        for n, rows in codes(10):
            self.same_answers(n, rows, [0] + rows)
            self.same_answers(n, rows, rows + [0, 0])
            self.same_answers(n, rows, [row for pair in zip(rows, [0] * len(rows)) for row in pair])

    def test_rows_that_are_doubled(self):
        for n, rows in codes(11):
            self.same_answers(n, rows, rows + rows)
            self.same_answers(n, rows, [row for row in rows for _ in range(4)])

    def test_rows_that_are_sums_of_others(self):
        for n, rows in codes(12):
            total = 0
            sums = []
            for row in rows:
                total ^= row
                sums.append(total)
            self.same_answers(n, rows, rows + sums)
            self.same_answers(n, rows, sums + rows)


class P6Distances(unittest.TestCase):
    def test_side_by_side_the_lesser_one(self):
        dice = Dice(13)
        for n, rows in codes(13, lengths=range(1, 10)):
            m = 1 + dice.throw(10 - n)
            others = dice.rows(m, 2)
            start = [("put", 0, n, rows), ("put", 1, m, others)]
            expected = lesser(least(*start), least(("put", 0, m, others)))
            self.assertEqual(least(*start, ("beside", 0, 1, 0)), expected, (n, rows, m, others))

    def test_doubled_the_lesser_of_twice_the_first_and_the_second(self):
        dice = Dice(14)
        for n, rows in codes(14, lengths=range(1, 6)):
            others = dice.rows(n, 2)
            start = [("put", 0, n, rows), ("put", 1, n, others)]
            first = least(*start)
            expected = lesser(None if first is None else 2 * first, least(("put", 0, n, others)))
            self.assertEqual(least(*start, ("double", 0, 1, 0)), expected, (n, rows, others))

    def test_extended_an_odd_one_grows_by_one(self):
        for n, rows in codes(15, lengths=range(1, 10)):
            before = least(("put", 0, n, rows))
            expected = None if before is None else before + before % 2
            self.assertEqual(least(("put", 0, n, rows), ("extend", 0, 0)), expected, (n, rows))

    def test_by_hand(self):
        self.assertEqual(least(("put", 0, 7, HAMMING), ("extend", 0, 0)), 4)
        self.assertEqual(least(("put", 0, 4, [15]), ("put", 1, 3, [7]), ("beside", 0, 1, 0)), 3)
        self.assertEqual(least(("put", 0, 4, [3, 6, 12]), ("put", 1, 4, [15]), ("double", 0, 1, 0)), 4)


if __name__ == "__main__":
    unittest.main()
