"""The calls holds to word (13 to 24) at ordinary inputs and at the edges of what a code may be."""

import unittest

from tests.helper import HAMMING, every, last, run

# 0, 6, 10 and 12: even weights in the upper three of four bits.
UPPER_EVEN = [12, 10]


class Telling(unittest.TestCase):
    def told(self, n, rows, *call):
        """What the call tells of the code of these rows, which lies in slot 0."""
        return last(("put", 0, n, rows), (call[0], 0, *call[1:]))

    def each_told(self, n, rows, name, numbers):
        return [self.told(n, rows, name, number)[1:] for number in numbers]


class NewSlots(Telling):
    def test_each_call(self):
        for slot in range(8):
            told = run(
                ("holds", slot, 0), ("holds", slot, 1), ("near", slot, 0), ("near", slot, 1), ("radius", slot),
                ("leader", slot, 0), ("leader", slot, 1), ("leaders", slot), ("syndrome", slot, 0),
                ("syndrome", slot, 1), ("encode", slot, 0), ("decode", slot, 0), ("decode", slot, 1),
                ("same", slot, 3), ("within", slot, 3), ("kind", slot), ("word", slot, 0))
            self.assertEqual(told, [
                [0, 1], [0, 0], [0, 0, 0, 1], [0, 1, 0, 1], [0, 1, 1],
                [0, 0], [0, 1], [0, 1, 1], [0, 0],
                [0, 1], [0, 0], [0, 0, 0], [0, 0, 1],
                [0, 1], [0, 1], [0, 55], [0, 0]])


class Holds(Telling):
    def test_ordinary(self):
        held = [x for x in range(16) if self.told(4, UPPER_EVEN, "holds", x) == [0, 1]]
        self.assertEqual(held, [0, 6, 10, 12])
        self.assertEqual(self.told(4, UPPER_EVEN, "holds", 14), [0, 0])
        self.assertEqual(self.each_told(7, HAMMING, "holds", [127, 13, 12, 81, 126]), [[1], [1], [0], [1], [0]])

    def test_0_alone_and_all_words(self):
        for n in range(1, 11):
            for x in (0, 1, 2 ** n - 1):
                self.assertEqual(self.told(n, [], "holds", x), [0, 1 if x == 0 else 0])
                self.assertEqual(self.told(n, every(n), "holds", x), [0, 1])


class Near(Telling):
    def test_ordinary(self):
        self.assertEqual(self.told(7, HAMMING, "near", 12), [0, 1, 13, 1])
        self.assertEqual(self.told(7, HAMMING, "near", 13), [0, 0, 13, 1])
        self.assertEqual(self.told(4, [15], "near", 7), [0, 1, 15, 1])
        self.assertEqual(self.told(4, [15], "near", 8), [0, 1, 0, 1])

    def test_of_several_the_least_number(self):
        self.assertEqual(self.told(2, [3], "near", 1), [0, 1, 0, 2])
        self.assertEqual(self.told(2, [3], "near", 2), [0, 1, 0, 2])
        self.assertEqual(self.told(4, [15], "near", 12), [0, 2, 0, 2])
        self.assertEqual(self.told(4, UPPER_EVEN, "near", 14), [0, 1, 6, 3])
        self.assertEqual(self.told(4, UPPER_EVEN, "near", 13), [0, 1, 12, 1])
        self.assertEqual(self.told(4, UPPER_EVEN, "near", 15), [0, 2, 6, 3])

    def test_ten_bits(self):
        self.assertEqual(self.told(10, [1023], "near", 31), [0, 5, 0, 2])
        self.assertEqual(self.told(10, [1023], "near", 63), [0, 4, 1023, 1])

    def test_0_alone_and_all_words(self):
        for n in range(1, 11):
            self.assertEqual(self.told(n, [], "near", 2 ** n - 1), [0, n, 0, 1])
            self.assertEqual(self.told(n, [], "near", 0), [0, 0, 0, 1])
            self.assertEqual(self.told(n, every(n), "near", 2 ** n - 1), [0, 0, 2 ** n - 1, 1])


class Radius(Telling):
    def test_ordinary(self):
        self.assertEqual(self.told(7, HAMMING, "radius"), [0, 1, 1])
        self.assertEqual(self.told(4, [15], "radius"), [0, 2, 3])
        self.assertEqual(self.told(4, UPPER_EVEN, "radius"), [0, 2, 3])
        self.assertEqual(self.told(10, [1023], "radius"), [0, 5, 31])

    def test_the_least_number_need_not_be_a_leader(self):
        self.assertEqual(self.told(6, [42, 25, 7], "radius"), [0, 2, 11])
        self.assertEqual(self.told(6, [42, 25, 7], "leader", 11), [0, 12])

    def test_0_alone_and_all_words(self):
        for n in range(1, 11):
            self.assertEqual(self.told(n, [], "radius"), [0, n, 2 ** n - 1])
            self.assertEqual(self.told(n, every(n), "radius"), [0, 0, 0])


class Leader(Telling):
    def test_ordinary(self):
        self.assertEqual(self.told(7, HAMMING, "leader", 12), [0, 1])
        self.assertEqual(self.told(7, HAMMING, "leader", 127), [0, 0])
        self.assertEqual(self.told(3, [7], "leader", 3), [0, 4])
        self.assertEqual(self.told(3, [7], "leader", 4), [0, 4])

    def test_of_several_the_least_number(self):
        self.assertEqual(self.each_told(2, [3], "leader", [1, 2]), [[1], [1]])
        self.assertEqual(self.each_told(4, [15], "leader", [3, 12, 5, 10, 6, 9]), [[3], [3], [5], [5], [6], [6]])
        self.assertEqual(self.each_told(4, UPPER_EVEN, "leader", [14, 8, 15, 9]), [[2], [2], [3], [3]])

    def test_0_alone_and_all_words(self):
        for n in range(1, 11):
            for y in (0, 1, 2 ** n - 1):
                self.assertEqual(self.told(n, [], "leader", y), [0, y])
                self.assertEqual(self.told(n, every(n), "leader", y), [0, 0])


class Leaders(Telling):
    def test_ordinary(self):
        self.assertEqual(self.told(7, HAMMING, "leaders"), [0, 1, 7, 0, 0, 0, 0, 0, 0])
        self.assertEqual(self.told(4, [15], "leaders"), [0, 1, 4, 3, 0, 0])
        self.assertEqual(self.told(4, UPPER_EVEN, "leaders"), [0, 1, 2, 1, 0, 0])
        self.assertEqual(self.told(10, [1023], "leaders"), [0, 1, 10, 45, 120, 210, 126, 0, 0, 0, 0, 0])

    def test_0_alone_and_all_words(self):
        self.assertEqual(self.told(10, [], "leaders"), [0, 1, 10, 45, 120, 210, 252, 210, 120, 45, 10, 1])
        for n in range(1, 11):
            self.assertEqual(self.told(n, every(n), "leaders"), [0, 1] + [0] * n)


class Syndrome(Telling):
    def test_row_j_of_the_duals_form_is_bit_j(self):
        self.assertEqual(last(("put", 0, 4, [15]), ("dual", 0, 1), ("form", 1)), [0, 4, 9, 5, 3])
        self.assertEqual(self.each_told(4, [15], "syndrome", [8, 4, 2, 1]), [[1], [2], [4], [7]])
        self.assertEqual(self.each_told(4, [15], "syndrome", [0, 15, 3, 12, 7]), [[0], [0], [3], [3], [1]])
        self.assertEqual(self.each_told(7, HAMMING, "syndrome", [64, 32, 16, 1, 13]), [[1], [2], [4], [5], [0]])

    def test_0_alone_and_all_words(self):
        for n in range(1, 11):
            self.assertEqual(self.told(n, [], "syndrome", 1), [0, 2 ** (n - 1)])
            self.assertEqual(self.told(n, [], "syndrome", 2 ** (n - 1)), [0, 1])
            self.assertEqual(self.told(n, [], "syndrome", 2 ** n - 1), [0, 2 ** n - 1])
            self.assertEqual(self.told(n, every(n), "syndrome", 2 ** n - 1), [0, 0])


class Encode(Telling):
    def test_row_j_of_the_form_for_bit_j(self):
        self.assertEqual(last(("put", 0, 7, HAMMING), ("form", 0)), [0, 7, 70, 35, 23, 13])
        self.assertEqual(self.each_told(7, HAMMING, "encode", [0, 1, 2, 4, 8]), [[0], [70], [35], [23], [13]])
        self.assertEqual(self.each_told(7, HAMMING, "encode", [5, 15]), [[81], [127]])

    def test_0_alone_and_all_words(self):
        for n in range(1, 11):
            self.assertEqual(self.told(n, [], "encode", 0), [0, 0])
            self.assertEqual(self.told(n, every(n), "encode", 1), [0, 2 ** (n - 1)])
            self.assertEqual(self.told(n, every(n), "encode", 2 ** (n - 1)), [0, 1])
            self.assertEqual(self.told(n, every(n), "encode", 2 ** n - 1), [0, 2 ** n - 1])


class Decode(Telling):
    def test_ordinary(self):
        self.assertEqual(self.each_told(7, HAMMING, "decode", [12, 13, 70, 126, 0]),
                         [[8, 1], [8, 0], [1, 0], [15, 1], [0, 0]])
        self.assertEqual(self.each_told(4, [15], "decode", [7, 8]), [[1, 1], [0, 1]])

    def test_of_several_nearest_that_of_the_least_number(self):
        self.assertEqual(self.told(2, [3], "decode", 2), [0, 0, 1])
        self.assertEqual(self.told(4, [15], "decode", 12), [0, 0, 2])
        self.assertEqual(self.told(4, UPPER_EVEN, "decode", 14), [0, 2, 1])
        self.assertEqual(self.told(4, UPPER_EVEN, "decode", 15), [0, 2, 2])

    def test_0_alone_and_all_words(self):
        for n in range(1, 11):
            self.assertEqual(self.told(n, [], "decode", 2 ** n - 1), [0, 0, n])
            self.assertEqual(self.told(n, every(n), "decode", 2 ** (n - 1)), [0, 1, 0])
            self.assertEqual(self.told(n, every(n), "decode", 1), [0, 2 ** (n - 1), 0])


class SameAndWithin(Telling):
    def both_ways(self, n, rows, m, others):
        """What same and within tell of two codes, the second call with the slots changed over."""
        told = run(("put", 0, n, rows), ("put", 1, m, others),
                   ("same", 0, 1), ("same", 1, 0), ("within", 0, 1), ("within", 1, 0))
        return told[2:]

    def test_ordinary(self):
        self.assertEqual(self.both_ways(4, [12, 10], 4, [6, 10, 0]), [[0, 1], [0, 1], [0, 1], [0, 1]])
        self.assertEqual(self.both_ways(4, [12], 4, [6, 10]), [[0, 0], [0, 0], [0, 1], [0, 0]])
        self.assertEqual(self.both_ways(4, [12, 1], 4, [6, 10]), [[0, 0], [0, 0], [0, 0], [0, 0]])

    def test_unequal_lengths(self):
        for rows in ([], [1], [3, 1]):
            self.assertEqual(self.both_ways(2, rows, 3, rows), [[0, 0], [0, 0], [-2], [-2]])

    def test_0_alone_and_all_words(self):
        for n in range(1, 11):
            self.assertEqual(self.both_ways(n, [], n, [0]), [[0, 1], [0, 1], [0, 1], [0, 1]])
            self.assertEqual(self.both_ways(n, [], n, every(n)), [[0, 0], [0, 0], [0, 1], [0, 0]])
            self.assertEqual(self.both_ways(n, every(n)[::-1], n, every(n)), [[0, 1], [0, 1], [0, 1], [0, 1]])

    def test_a_slot_and_itself(self):
        for n, rows in ((1, []), (1, [1]), (4, UPPER_EVEN), (10, [1023, 31])):
            told = run(("put", 5, n, rows), ("same", 5, 5), ("within", 5, 5))
            self.assertEqual(told[1:], [[0, 1], [0, 1]])


class Kind(Telling):
    def test_0_alone_and_all_words(self):
        for n in range(1, 11):
            self.assertEqual(self.told(n, [], "kind"), [0, 1 + 2 + 4 + 16 + 32])
            self.assertEqual(self.told(n, every(n), "kind"), [0, 16 + 32])

    def test_one_word_of_1s(self):
        self.assertEqual(self.told(2, [3], "kind"), [0, 1 + 4 + 8 + 16])
        self.assertEqual(self.told(6, [63], "kind"), [0, 1 + 4 + 16])
        for n in (4, 8):
            self.assertEqual(self.told(n, [2 ** n - 1], "kind"), [0, 1 + 2 + 4 + 16])
        for n in (1, 3, 5, 7, 9):
            self.assertEqual(self.told(n, [2 ** n - 1], "kind"), [0, 16 + 32])

    def test_known_codes(self):
        self.assertEqual(self.told(7, HAMMING, "kind"), [0, 16 + 32])
        self.assertEqual(last(("put", 0, 7, HAMMING), ("dual", 0, 0), ("kind", 0)), [0, 1 + 2 + 4 + 16])
        self.assertEqual(last(("put", 0, 7, HAMMING), ("extend", 0, 0), ("kind", 0)), [0, 1 + 2 + 4 + 8])

    def test_one_trait_without_the_next(self):
        self.assertEqual(self.told(4, [3, 6], "kind"), [0, 1])
        self.assertEqual(self.told(3, [3], "kind"), [0, 1 + 4])
        self.assertEqual(self.told(5, [15], "kind"), [0, 1 + 2 + 4])
        self.assertEqual(self.told(4, [3, 12], "kind"), [0, 1 + 4 + 8])
        self.assertEqual(self.told(4, [5, 10], "kind"), [0, 1 + 4 + 8 + 16])
        self.assertEqual(self.told(3, [3, 6], "kind"), [0, 1 + 16])
        self.assertEqual(self.told(3, [1], "kind"), [0, 32])
        self.assertEqual(self.told(3, [1, 6], "kind"), [0, 0])

    def test_rows_alone_do_not_make_all_weights_multiples_of_4(self):
        self.assertEqual(last(("put", 0, 7, [71, 60]), ("form", 0)), [0, 7, 71, 60])
        self.assertEqual(self.told(7, [71, 60], "kind"), [0, 1])


class Word(Telling):
    def test_by_number_from_0(self):
        self.assertEqual(self.each_told(4, UPPER_EVEN, "word", range(4)), [[0], [6], [10], [12]])
        self.assertEqual(self.each_told(7, HAMMING, "word", [0, 1, 2, 14, 15]), [[0], [13], [23], [114], [127]])

    def test_0_alone_and_all_words(self):
        for n in range(1, 11):
            self.assertEqual(self.told(n, [], "word", 0), [0, 0])
            for k in (0, 1, 2 ** (n - 1), 2 ** n - 1):
                self.assertEqual(self.told(n, every(n), "word", k), [0, k])


if __name__ == "__main__":
    unittest.main()
