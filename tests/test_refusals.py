"""Each refusal at its edges, -1 ahead of -2, and that a refusal is its number alone and changes nothing."""

import unittest

from tests.helper import FORMS, HUGE, NEW_FORMS, SHAPES, every, last, run

FIVES = [("put", slot, 5, [slot + 1, 31]) for slot in range(8)]
FIVE_FORMS = run(*FIVES, *FORMS)[8:]


class Refusals(unittest.TestCase):
    def refused(self, number, start, call):
        """The call is answered with the number alone, and all slots stay as they were."""
        before = run(*start, *FORMS)[len(start):]
        told = run(*start, call, *FORMS)[len(start):]
        self.assertEqual(told[0], [number], call)
        self.assertEqual(told[1:], before, call)

    def done(self, start, call):
        self.assertEqual(last(*start, call)[0], 0, call)


class SlotAboveSeven(Refusals):
    def test_in_each_place_of_each_call(self):
        for name, shape in SHAPES.items():
            ordinary = {"o": 1, "p": 2, "q": 3, "i": 0, "n": 5, "r": [3], "x": 31, "y": 31, "m": 3, "k": 3}
            self.done(FIVES, (name, *[ordinary[letter] for letter in shape]))
            for place in [letter for letter in shape if letter in "opq"]:
                for slot in (8, 9, 10, 255, 2 ** 32, HUGE):
                    numbers = dict(ordinary, **{place: slot})
                    self.refused(-1, FIVES, (name, *[numbers[letter] for letter in shape]))

    def test_in_all_places_at_once(self):
        for name, shape in SHAPES.items():
            numbers = {"o": 8, "p": HUGE, "q": 8, "i": HUGE, "n": HUGE, "r": [HUGE] * 200,
                       "x": HUGE, "y": HUGE, "m": HUGE, "k": HUGE}
            self.refused(-1, FIVES, (name, *[numbers[letter] for letter in shape]))

    def test_slot_seven_is_there(self):
        for name, shape in SHAPES.items():
            numbers = {"o": 7, "p": 7, "q": 7, "i": 0, "n": 5, "r": [3], "x": 0, "y": 0, "m": 0, "k": 0}
            self.done(FIVES, (name, *[numbers[letter] for letter in shape]))

    def test_on_new_slots(self):
        self.assertEqual(run(("put", 8, 1, [1]), ("dual", 0, 8), ("dual", 8, 0), *FORMS), [[-1]] * 3 + NEW_FORMS)


class Put(Refusals):
    def test_n_is_not_1_to_10(self):
        for n in (0, 11, 12, 64, HUGE):
            self.refused(-1, FIVES, ("put", 0, n, []))
            self.refused(-1, FIVES, ("put", 0, n, [0]))
            self.refused(-1, FIVES, ("put", 0, n, [1]))
        self.done(FIVES, ("put", 0, 1, []))
        self.done(FIVES, ("put", 0, 10, []))

    def test_more_than_64_rows(self):
        for row in (0, 1, 3):
            self.done(FIVES, ("put", 0, 2, [row] * 64))
            for how_many in (65, 66, 200):
                self.refused(-1, FIVES, ("put", 0, 2, [row] * how_many))
        self.assertEqual(last(("put", 0, 10, list(range(64)))), [0, 10, 6])
        self.refused(-1, FIVES, ("put", 0, 10, list(range(65))))
        self.refused(-1, FIVES, ("put", 0, 10, list(range(200))))

    def test_a_row_that_is_no_word(self):
        for n in range(1, 11):
            self.done(FIVES, ("put", 0, n, [2 ** n - 1]))
            for row in (2 ** n, 2 ** n + 1, HUGE):
                self.refused(-1, FIVES, ("put", 0, n, [row]))
                self.refused(-1, FIVES, ("put", 0, n, [row, 1, 0]))
                self.refused(-1, FIVES, ("put", 0, n, [1, 0, row]))
        self.done(FIVES, ("put", 0, 3, [1] * 63 + [7]))
        self.refused(-1, FIVES, ("put", 0, 3, [1] * 63 + [8]))

    def test_what_is_behind_a_refused_put_is_read_on(self):
        for call in (("put", 8, 3, [2, 0, 2]), ("put", 0, 11, [1, 0, 3]), ("put", 0, 3, [2] * 200), ("put", 0, 3, [8])):
            self.assertEqual(run(call, ("put", 0, 3, [5]), ("form", 0)), [[-1], [0, 3, 1], [0, 3, 5]])


class UnequalLengths(Refusals):
    def test_both_and_meet(self):
        for name in ("both", "meet"):
            for n, m in ((1, 2), (2, 1), (4, 5), (9, 10), (10, 1)):
                start = [("put", 0, n, [1]), ("put", 1, m, [1])]
                for q in (0, 1, 2):
                    self.refused(-2, start, (name, 0, 1, q))
            self.refused(-2, [("put", 0, 2, [])], (name, 0, 1, 0))
            self.done([("put", 0, 10, [1]), ("put", 1, 10, [2])], (name, 0, 1, 2))

    def test_double(self):
        for n, m in ((1, 2), (2, 1), (4, 5), (5, 4), (1, 9)):
            start = [("put", 0, n, [1]), ("put", 1, m, [1])]
            for q in (0, 1, 2):
                self.refused(-2, start, ("double", 0, 1, q))

    def test_within(self):
        for n, m in ((1, 2), (2, 1), (4, 5), (9, 10), (10, 1)):
            for rows in ([], [1]):
                start = [("put", 0, n, rows), ("put", 1, m, rows)]
                self.refused(-2, start, ("within", 0, 1))
                self.refused(-2, start, ("within", 1, 0))
        self.refused(-2, [("put", 0, 2, [])], ("within", 0, 1))
        self.done([("put", 0, 10, [1]), ("put", 1, 10, [2])], ("within", 0, 1))

    def test_same_is_not_refused(self):
        for n, m in ((1, 2), (2, 1), (4, 5), (9, 10), (10, 1)):
            self.assertEqual(last(("put", 0, n, [1]), ("put", 1, m, [1]), ("same", 0, 1)), [0, 0])

    def test_the_target_may_have_another(self):
        start = [("put", 0, 4, [1]), ("put", 1, 4, [2]), ("put", 2, 9, [3])]
        for name in ("both", "meet", "double"):
            self.done(start, (name, 0, 1, 2))


class NoSuchBit(Refusals):
    def test_n_is_1(self):
        for name in ("puncture", "shorten"):
            for rows in ([], [1]):
                for i in (0, 1, 2, HUGE):
                    self.refused(-2, [("put", 0, 1, rows)], (name, 0, i, 0))
                    self.refused(-2, [("put", 0, 1, rows)], (name, 0, i, 1))

    def test_i_is_not_below_n(self):
        for name in ("puncture", "shorten"):
            for n in range(2, 11):
                start = [("put", 0, n, [1, 2 ** n - 1])]
                self.done(start, (name, 0, 0, 1))
                self.done(start, (name, 0, n - 1, 1))
                for i in (n, n + 1, HUGE):
                    self.refused(-2, start, (name, 0, i, 0))
                    self.refused(-2, start, (name, 0, i, 1))


class MoreThanTenBits(Refusals):
    def test_extend(self):
        self.assertEqual(last(("put", 0, 9, [1]), ("extend", 0, 1)), [0, 10, 1])
        for rows in ([], [1], [1023, 5]):
            self.refused(-2, [("put", 0, 10, rows)], ("extend", 0, 0))
            self.refused(-2, [("put", 0, 10, rows)], ("extend", 0, 1))

    def test_beside(self):
        for n in range(1, 10):
            start = [("put", 0, n, [1]), ("put", 1, 10 - n, [1]), ("put", 2, 11 - n, [1])]
            self.assertEqual(last(*start, ("beside", 0, 1, 3)), [0, 10, 2])
            for q in (0, 2, 3):
                self.refused(-2, start, ("beside", 0, 2, q))
                self.refused(-2, start, ("beside", 2, 0, q))
        self.refused(-2, [("put", 0, 10, [])], ("beside", 0, 0, 0))

    def test_double(self):
        self.assertEqual(last(("put", 0, 5, [1]), ("double", 0, 0, 1)), [0, 10, 2])
        for n in (6, 7, 10):
            self.refused(-2, [("put", 0, n, [1])], ("double", 0, 0, 0))
            self.refused(-2, [("put", 0, n, [1]), ("put", 1, n, [])], ("double", 0, 1, 2))


class NoWord(Refusals):
    def test_a_number_that_is_no_word_of_n_bits(self):
        for name in ("holds", "near", "leader", "syndrome", "decode"):
            for n in range(1, 11):
                for rows in ([], [1], [2 ** n - 1], every(n)):
                    start = [("put", 0, n, rows)]
                    self.done(start, (name, 0, 0))
                    self.done(start, (name, 0, 2 ** n - 1))
                    for y in (2 ** n, 2 ** n + 1, 2 ** 10, 2 ** 32, HUGE):
                        self.refused(-1, start, (name, 0, y))

    def test_on_new_slots(self):
        for name in ("holds", "near", "leader", "syndrome", "decode"):
            self.done([], (name, 7, 1))
            self.refused(-1, [], (name, 7, 2))


class MoreThanTheRowsMake(Refusals):
    def test_m_or_k_is_not_below_how_many_words_there_are(self):
        for name in ("encode", "word"):
            for n in range(1, 11):
                for how_many in range(n + 1):
                    start = [("put", 0, n, every(n)[n - how_many:])]
                    self.done(start, (name, 0, 0))
                    self.done(start, (name, 0, 2 ** how_many - 1))
                    for number in (2 ** how_many, 2 ** how_many + 1, 2 ** 10, HUGE):
                        self.refused(-1, start, (name, 0, number))

    def test_the_forms_rows_count_not_those_handed_in(self):
        start = [("put", 0, 4, [3, 5, 6, 3, 0])]
        for name in ("encode", "word"):
            self.done(start, (name, 0, 3))
            self.refused(-1, start, (name, 0, 4))

    def test_on_new_slots(self):
        for name in ("encode", "word"):
            self.done([], (name, 0, 0))
            self.refused(-1, [], (name, 0, 1))


class NoneButZero(Refusals):
    def test_least(self):
        self.refused(-5, [], ("least", 0))
        for n in range(1, 11):
            self.refused(-5, [("put", 0, n, [])], ("least", 0))
            self.refused(-5, [("put", 0, n, [0, 0])], ("least", 0))
            self.done([("put", 0, n, [0, 1])], ("least", 0))


class SlotAheadOfTheRest(Refusals):
    def test_where_the_lengths_do_not_go_together(self):
        start = [("put", 0, 10, [3]), ("put", 1, 9, [3])]
        for name in ("both", "meet", "beside", "double"):
            self.refused(-2, start, (name, 0, 1, 2))
            for slot in (8, HUGE):
                self.refused(-1, start, (name, 0, 1, slot))
                self.refused(-1, start, (name, 0, slot, 2))
                self.refused(-1, start, (name, slot, 1, 2))

    def test_within(self):
        start = [("put", 0, 10, [3]), ("put", 1, 9, [3])]
        self.refused(-2, start, ("within", 0, 1))
        for slot in (8, HUGE):
            self.refused(-1, start, ("within", 0, slot))
            self.refused(-1, start, ("within", slot, 1))
            self.refused(-1, start, ("same", 0, slot))
            self.refused(-1, start, ("same", slot, 0))
            self.refused(-1, start, ("same", slot, slot))

    def test_where_there_is_no_such_bit(self):
        for name in ("puncture", "shorten"):
            for start, i in (([], 0), ([("put", 0, 4, [3])], 4), ([("put", 0, 4, [3])], HUGE)):
                self.refused(-2, start, (name, 0, i, 1))
                self.refused(-1, start, (name, 0, i, 8))
                self.refused(-1, start, (name, 8, i, 1))
                self.refused(-1, start, (name, HUGE, i, HUGE))

    def test_where_a_bit_more_is_too_many(self):
        start = [("put", 0, 10, [3])]
        self.refused(-2, start, ("extend", 0, 1))
        self.refused(-1, start, ("extend", 0, 8))
        self.refused(-1, start, ("extend", 0, HUGE))


class ManyRefusals(Refusals):
    def test_one_behind_another_change_nothing(self):
        refused = [
            ("put", 0, 0, []), ("put", 0, 5, [32]), ("dual", 0, 8), ("both", 0, 8, 1), ("puncture", 0, 5, 0),
            ("shorten", 1, HUGE, 1), ("put", 3, 5, [1] * 65), ("weights", 8), ("least", HUGE), ("form", 8),
        ]
        told = run(*FIVES, *refused, *FORMS)[8:]
        self.assertEqual(told[:10], [[-1], [-1], [-1], [-1], [-2], [-2], [-1], [-1], [-1], [-1]])
        self.assertEqual(told[10:], FIVE_FORMS)

    def test_of_the_calls_that_only_tell(self):
        refused = [
            ("holds", 0, 32), ("near", 8, 0), ("near", 0, HUGE), ("radius", 8), ("leader", 0, 32), ("leaders", HUGE),
            ("syndrome", 0, 32), ("encode", 0, 4), ("decode", 0, 32), ("same", 8, 0), ("within", 0, 8), ("kind", 9),
            ("word", 0, 4), ("word", 9, 0),
        ]
        told = run(*FIVES, *refused, *FORMS)[8:]
        self.assertEqual(told[:14], [[-1]] * 14)
        self.assertEqual(told[14:], FIVE_FORMS)


if __name__ == "__main__":
    unittest.main()
