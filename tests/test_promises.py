"""P1 to P6 over many codes."""

import unittest
from itertools import combinations
from math import comb

from tests.helper import Dice, HAMMING, asked, codes, last, ones, run, span


def kraw(n, j, i):
    """K(j, i) as P2 tells it."""
    return sum((-1) ** s * comb(i, s) * comb(n - i, j - s) for s in range(j + 1))


def least(*calls):
    """The least distance of slot 0 behind these calls, None where there is none but 0."""
    told = last(*calls, ("least", 0))
    return None if told == [-5] else told[1]


def lesser(first, second):
    """The lesser of two distances, of which either may not be there."""
    return min([distance for distance in (first, second) if distance is not None], default=None)


def turnings(n, below):
    """All ways to turn fewer bits than below."""
    return [sum(2 ** i for i in bits) for turned in range(n + 1) if turned < below
            for bits in combinations(range(n), turned)]


class P1BroughtBack(unittest.TestCase):
    def brought_back(self, n, rows, sent):
        """Each of the words with each of the turnings is brought back to the word, by near and by decode."""
        start = [("put", 0, n, rows)]
        distance = least(*start)
        encoded = asked(start, [("encode", 0, m) for m in sent])
        cases = [(m, word, bits) for m, (_, word) in zip(sent, encoded)
                 for bits in turnings(n, n + 1 if distance is None else distance / 2)]
        near = asked(start, [("near", 0, word ^ bits) for _, word, bits in cases])
        decoded = asked(start, [("decode", 0, word ^ bits) for _, word, bits in cases])
        leaders = asked(start, [("leader", 0, word ^ bits) for _, word, bits in cases])
        for place, (m, word, bits) in enumerate(cases):
            self.assertEqual(near[place], [0, ones(bits), word, 1], (n, rows, m, bits))
            self.assertEqual(decoded[place], [0, m, ones(bits)], (n, rows, m, bits))
            self.assertEqual(leaders[place], [0, bits], (n, rows, m, bits))

    def test_many_codes(self):
        dice = Dice(16)
        for n, rows in codes(16, how_many=15):
            self.brought_back(n, rows, [dice.throw(len(span(rows))) for _ in range(3)])

    def test_all_words_of_known_codes(self):
        for n, rows in ((7, HAMMING), (3, [7]), (5, [31]), (9, [511]), (10, [1023]), (8, [15, 51, 85, 255])):
            self.brought_back(n, rows, list(range(len(span(rows)))))
        self.brought_back(10, [31, 992 + 3, 100], list(range(8)))

    def test_each_word_of_a_code_is_its_own_nearest(self):
        for n, rows in codes(17, how_many=5, lengths=range(1, 8)):
            words = sorted(span(rows))
            self.assertEqual(asked([("put", 0, n, rows)], [("near", 0, word) for word in words]),
                             [[0, 0, word, 1] for word in words])

    def test_encode_and_decode_turn_into_one_another(self):
        for n, rows in codes(18, how_many=5):
            start = [("put", 0, n, rows)]
            sent = list(range(0, len(span(rows)), 1 + len(span(rows)) // 50))
            words = asked(start, [("encode", 0, m) for m in sent])
            self.assertEqual(len({word for _, word in words}), len(sent))
            self.assertEqual(asked(start, [("decode", 0, word) for _, word in words]), [[0, m, 0] for m in sent])


class P2Weights(unittest.TestCase):
    def test_weights_of_code_and_dual_agree(self):
        for n, rows in codes(2) + [(7, HAMMING), (8, [15, 51, 85, 255]), (10, [31, 992])]:
            told = run(("put", 0, n, rows), ("weights", 0), ("dual", 0, 1), ("weights", 1))
            a, b = told[1][1:], told[3][1:]
            self.assertEqual((len(a), len(b)), (n + 1, n + 1))
            for j in range(n + 1):
                self.assertEqual(sum(a) * b[j], sum(a[i] * kraw(n, j, i) for i in range(n + 1)), (n, rows, j))

    def test_so_many_words_as_the_rows_make(self):
        for n, rows in codes(3):
            told = run(("put", 0, n, rows), ("weights", 0), ("dual", 0, 1))
            self.assertEqual(sum(told[1][1:]), 2 ** told[0][2])
            self.assertEqual(told[0][2] + told[2][2], n)


class P3Form(unittest.TestCase):
    def same_form(self, n, rows, others):
        told = run(("put", 0, n, rows), ("put", 1, n, others), ("form", 0), ("form", 1), ("same", 0, 1))
        self.assertEqual(told[4], [0, 1], (n, rows, others))
        self.assertEqual(told[0], told[1], (n, rows, others))
        self.assertEqual(told[2], told[3], (n, rows, others))

    def test_rows_in_another_order(self):
        for n, rows in codes(4):
            self.same_form(n, rows, rows[::-1])
            self.same_form(n, rows, sorted(rows))
            self.same_form(n, rows, rows[1:] + rows[:1])

    def test_rows_otherwise_combined(self):
        dice = Dice(5)
        for n, rows in codes(5):
            others = list(rows)
            for _ in range(12):
                target, source = dice.throw(len(rows) or 1), dice.throw(len(rows) or 1)
                if target != source:
                    others[target] ^= others[source]
            self.same_form(n, rows, others)

    def test_the_forms_rows_have_the_same_form(self):
        for n, rows in codes(6):
            self.same_form(n, rows, last(("put", 0, n, rows), ("form", 0))[2:])

    def test_another_code_has_another_form(self):
        forms = [last(("put", 0, 3, rows), ("form", 0)) for rows in ([], [1], [2], [3], [4], [5], [6], [7], [1, 2], [1, 4])]
        for place, form in enumerate(forms):
            self.assertNotIn(form, forms[:place])


class P3Dual(unittest.TestCase):
    def test_the_duals_dual_is_the_code(self):
        for n, rows in codes(7):
            told = run(("put", 0, n, rows), ("form", 0), ("dual", 0, 1), ("dual", 1, 1), ("form", 1), ("form", 0),
                       ("same", 0, 1), ("within", 0, 1), ("within", 1, 0))
            self.assertEqual(told[6:], [[0, 1]] * 3, (n, rows))
            self.assertEqual(told[4], told[1], (n, rows))
            self.assertEqual(told[5], told[1], (n, rows))

    def test_sums_and_common_words(self):
        dice = Dice(8)
        for n, rows in codes(8):
            start = [("put", 0, n, rows), ("put", 1, n, dice.rows(n, n)), ("dual", 0, 2), ("dual", 1, 3)]
            for one, other in (("both", "meet"), ("meet", "both")):
                told = run(*start, (one, 0, 1, 4), ("dual", 4, 4), ("form", 4), (other, 2, 3, 5), ("form", 5),
                           ("same", 4, 5))
                self.assertEqual(told[6], told[8], (n, rows, one))
                self.assertEqual(told[9], [0, 1], (n, rows, one))

    def test_sums_and_common_words_lie_around_the_codes(self):
        dice = Dice(24)
        for n, rows in codes(24):
            start = [("put", 0, n, rows), ("put", 1, n, dice.rows(n, n)), ("both", 0, 1, 2), ("meet", 0, 1, 3)]
            told = run(*start, ("within", 0, 2), ("within", 1, 2), ("within", 3, 0), ("within", 3, 1))
            self.assertEqual(told[4:], [[0, 1]] * 4, (n, rows))

    def test_punctured_and_shortened(self):
        for n, rows in codes(9, lengths=range(2, 11)):
            for i in range(n):
                for one, other in (("puncture", "shorten"), ("shorten", "puncture")):
                    told = run(("put", 0, n, rows), (one, 0, i, 1), ("dual", 1, 1), ("form", 1),
                               ("dual", 0, 2), (other, 2, i, 2), ("form", 2))
                    self.assertEqual(told[3], told[6], (n, rows, i, one))


class P4Leaders(unittest.TestCase):
    def test_no_word_is_farther_than_radius_tells(self):
        for n, rows in codes(19, how_many=6, lengths=range(1, 9)):
            start = [("put", 0, n, rows)]
            distances = [told[1] for told in asked(start, [("near", 0, y) for y in range(2 ** n)])]
            greatest = max(distances)
            self.assertEqual(last(*start, ("radius", 0)), [0, greatest, distances.index(greatest)], (n, rows))

    def test_thrown_words_of_more_bits(self):
        dice = Dice(20)
        for n, rows in codes(20, how_many=10, lengths=(9, 10)):
            start = [("put", 0, n, rows)]
            radius, farthest = last(*start, ("radius", 0))[1:]
            for told in asked(start, [("near", 0, dice.throw(2 ** n)) for _ in range(58)]):
                self.assertLessEqual(told[1], radius, (n, rows))
            self.assertEqual(last(*start, ("near", 0, farthest))[1], radius, (n, rows))
            for told in asked(start, [("near", 0, y) for y in range(max(0, farthest - 58), farthest)]):
                self.assertLess(told[1], radius, (n, rows))

    def test_a_leaders_weight_is_the_distance_from_the_code(self):
        dice = Dice(21)
        for n, rows in codes(21, how_many=10):
            start = [("put", 0, n, rows)]
            some = [dice.throw(2 ** n) for _ in range(29)]
            near = asked(start, [("near", 0, y) for y in some])
            leaders = asked(start, [("leader", 0, y) for y in some])
            self.assertEqual([ones(told[1]) for told in leaders], [told[1] for told in near], (n, rows))
            for y, told in zip(some, leaders):
                self.assertEqual(last(*start, ("holds", 0, y ^ told[1])), [0, 1], (n, rows, y))
                self.assertEqual(last(*start, ("leader", 0, told[1])), told, (n, rows, y))

    def test_one_leader_to_each_syndrome(self):
        for n, rows in codes(22, how_many=6, lengths=range(1, 9)):
            start = [("put", 0, n, rows)]
            syndromes = [told[1] for told in asked(start, [("syndrome", 0, y) for y in range(2 ** n)])]
            leaders = [told[1] for told in asked(start, [("leader", 0, y) for y in range(2 ** n)])]
            pairs = set(zip(syndromes, leaders))
            self.assertEqual(sorted(syndrome for syndrome, _ in pairs), list(range(len(pairs))), (n, rows))
            self.assertEqual(len({leader for _, leader in pairs}), len(pairs), (n, rows))
            by_weight = [sum(1 for _, leader in pairs if ones(leader) == w) for w in range(n + 1)]
            self.assertEqual(last(*start, ("leaders", 0)), [0] + by_weight, (n, rows))

    def test_so_many_leaders_as_the_duals_rows_make(self):
        for n, rows in codes(23):
            told = run(("put", 0, n, rows), ("leaders", 0), ("dual", 0, 1), ("radius", 0))
            counts = told[1][1:]
            self.assertEqual(sum(counts), 2 ** told[2][2], (n, rows))
            self.assertEqual(max(w for w in range(n + 1) if counts[w]), told[3][1], (n, rows))


class P5Rows(unittest.TestCase):
    def same_answers(self, n, rows, others):
        behind = [("form", 0), ("weights", 0), ("least", 0), ("dual", 0, 1), ("form", 1), ("form", 0)]
        last_word = len(span(rows)) - 1
        behind += [("holds", 0, 1), ("near", 0, 2 ** n - 1), ("radius", 0), ("leader", 0, 2 ** n - 1), ("leaders", 0)]
        behind += [("syndrome", 0, 2 ** n - 1), ("encode", 0, last_word), ("encode", 0, last_word // 2)]
        behind += [("decode", 0, 1), ("kind", 0), ("word", 0, last_word), ("word", 0, last_word // 2)]
        behind += [("encode", 0, last_word + 1), ("word", 0, last_word + 1)]
        if n > 1:
            behind += [("puncture", 0, n // 2, 2), ("form", 2), ("shorten", 0, n // 2, 2), ("form", 2)]
        self.assertEqual(run(("put", 0, n, rows), *behind), run(("put", 0, n, others), *behind), (n, rows, others))

    def test_rows_that_are_0(self):
        for n, rows in codes(10):
            self.same_answers(n, rows, [0] + rows)
            self.same_answers(n, rows, rows + [0, 0])
            self.same_answers(n, rows, [row for pair in zip(rows, [0] * len(rows)) for row in pair])

    def test_rows_that_are_doubled(self):
        for n, rows in codes(11):
            self.same_answers(n, rows, rows + rows)
            self.same_answers(n, rows, [row for row in rows for _ in range(4)])

    def test_rows_that_are_sums_of_others(self):
        for n, rows in codes(12):
            total = 0
            sums = []
            for row in rows:
                total ^= row
                sums.append(total)
            self.same_answers(n, rows, rows + sums)
            self.same_answers(n, rows, sums + rows)


class P6Distances(unittest.TestCase):
    def test_side_by_side_the_lesser_one(self):
        dice = Dice(13)
        for n, rows in codes(13, lengths=range(1, 10)):
            m = 1 + dice.throw(10 - n)
            others = dice.rows(m, 2)
            start = [("put", 0, n, rows), ("put", 1, m, others)]
            expected = lesser(least(*start), least(("put", 0, m, others)))
            self.assertEqual(least(*start, ("beside", 0, 1, 0)), expected, (n, rows, m, others))

    def test_doubled_the_lesser_of_twice_the_first_and_the_second(self):
        dice = Dice(14)
        for n, rows in codes(14, lengths=range(1, 6)):
            others = dice.rows(n, 2)
            start = [("put", 0, n, rows), ("put", 1, n, others)]
            first = least(*start)
            expected = lesser(None if first is None else 2 * first, least(("put", 0, n, others)))
            self.assertEqual(least(*start, ("double", 0, 1, 0)), expected, (n, rows, others))

    def test_extended_an_odd_one_grows_by_one(self):
        for n, rows in codes(15, lengths=range(1, 10)):
            before = least(("put", 0, n, rows))
            expected = None if before is None else before + before % 2
            self.assertEqual(least(("put", 0, n, rows), ("extend", 0, 0)), expected, (n, rows))

    def test_by_hand(self):
        self.assertEqual(least(("put", 0, 7, HAMMING), ("extend", 0, 0)), 4)
        self.assertEqual(least(("put", 0, 4, [15]), ("put", 1, 3, [7]), ("beside", 0, 1, 0)), 3)
        self.assertEqual(least(("put", 0, 4, [3, 6, 12]), ("put", 1, 4, [15]), ("double", 0, 1, 0)), 4)


if __name__ == "__main__":
    unittest.main()
