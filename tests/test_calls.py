"""The calls put to least (1 to 12) at ordinary inputs and at the edges of what a code may be."""

import unittest

from tests.helper import Dice, FILLING, FORMS, HAMMING, NEW_FORMS, SHAPES, form_by_words, last, run, span

ALL_TEN = [2 ** i for i in range(10)]


class NewSlots(unittest.TestCase):
    def test_each_slot_has_the_code_of_one_bit_without_rows(self):
        self.assertEqual(run(*FORMS), NEW_FORMS)

    def test_each_call_but_put_on_new_slots(self):
        for slot in range(8):
            self.assertEqual(run(("weights", slot), ("least", slot)), [[0, 1, 0], [-5]])
            self.assertEqual(last(("dual", slot, 0), ("form", 0)), [0, 1, 1])
            self.assertEqual(run(("both", slot, 3, 1), ("form", 1)), [[0, 1, 0], [0, 1]])
            self.assertEqual(run(("meet", 3, slot, 1), ("form", 1)), [[0, 1, 0], [0, 1]])
            self.assertEqual(run(("puncture", slot, 0, 1), ("shorten", slot, 0, 1)), [[-2], [-2]])
            self.assertEqual(run(("extend", slot, 2), ("form", 2)), [[0, 2, 0], [0, 2]])
            self.assertEqual(run(("beside", slot, 4, 2), ("form", 2)), [[0, 2, 0], [0, 2]])
            self.assertEqual(run(("double", slot, 4, 2), ("form", 2)), [[0, 2, 0], [0, 2]])


class Put(unittest.TestCase):
    def test_tells_n_and_how_many_rows_the_form_has(self):
        self.assertEqual(last(("put", 0, 7, HAMMING)), [0, 7, 4])
        self.assertEqual(last(("put", 0, 3, [3, 5, 6])), [0, 3, 2])
        self.assertEqual(last(("put", 7, 4, [0, 0])), [0, 4, 0])

    def test_one_bit(self):
        self.assertEqual(run(("put", 0, 1, [1]), ("form", 0)), [[0, 1, 1], [0, 1, 1]])
        self.assertEqual(run(("put", 0, 1, [0]), ("form", 0)), [[0, 1, 0], [0, 1]])

    def test_ten_bits(self):
        self.assertEqual(last(("put", 0, 10, [1023])), [0, 10, 1])
        self.assertEqual(last(("put", 0, 10, ALL_TEN)), [0, 10, 10])

    def test_no_rows_for_each_n(self):
        for n in range(1, 11):
            self.assertEqual(run(("put", 0, n, []), ("form", 0)), [[0, n, 0], [0, n]])

    def test_takes_the_place_of_the_code_before(self):
        self.assertEqual(last(("put", 2, 7, HAMMING), ("put", 2, 3, [5]), ("form", 2)), [0, 3, 5])


class Form(unittest.TestCase):
    def test_ordinary(self):
        self.assertEqual(last(("put", 0, 7, HAMMING), ("form", 0)), [0, 7, 70, 35, 23, 13])
        self.assertEqual(last(("put", 0, 3, [7, 3]), ("form", 0)), [0, 3, 4, 3])
        self.assertEqual(last(("put", 0, 4, [12, 10]), ("form", 0)), [0, 4, 10, 6])

    def test_all_words(self):
        self.assertEqual(last(("put", 0, 3, [7, 6, 5]), ("form", 0)), [0, 3, 4, 2, 1])
        self.assertEqual(last(("put", 0, 10, ALL_TEN), ("form", 0)), [0, 10] + ALL_TEN[::-1])

    def test_is_what_the_document_calls_a_form(self):
        dice = Dice(1)
        for n in range(1, 11):
            for _ in range(20):
                rows = dice.rows(n, n + 2)
                form = last(("put", 0, n, rows), ("form", 0))[2:]
                tops = [row.bit_length() for row in form]
                self.assertNotIn(0, form)
                self.assertEqual(tops, sorted(set(tops), reverse=True))
                for row in form:
                    self.assertEqual([other for other in form if other >> (row.bit_length() - 1) & 1], [row])
                self.assertEqual(span(form), span(rows))

    def test_changes_nothing(self):
        self.assertEqual(run(("put", 0, 3, [5, 6]), ("form", 0), ("form", 0))[1:], [[0, 3, 5, 3]] * 2)


class Dual(unittest.TestCase):
    def test_ordinary(self):
        self.assertEqual(run(("put", 0, 7, HAMMING), ("dual", 0, 1), ("form", 1))[1:], [[0, 7, 3], [0, 7, 75, 46, 23]])
        self.assertEqual(run(("put", 0, 3, [7]), ("dual", 0, 1), ("form", 1))[1:], [[0, 3, 2], [0, 3, 5, 3]])

    def test_of_0_alone_and_of_all_words(self):
        for n in range(1, 11):
            every = [2 ** i for i in range(n)]
            self.assertEqual(
                run(("put", 0, n, []), ("dual", 0, 1), ("form", 1))[1:], [[0, n, n], [0, n] + every[::-1]])
            self.assertEqual(run(("put", 0, n, every), ("dual", 0, 1), ("form", 1))[1:], [[0, n, 0], [0, n]])

    def test_ten_bits(self):
        self.assertEqual(last(("put", 0, 10, [1023]), ("dual", 0, 1), ("weights", 1)),
                         [0, 1, 0, 45, 0, 210, 0, 210, 0, 45, 0, 1])

    def test_into_its_own_slot(self):
        self.assertEqual(last(("put", 0, 3, [7]), ("dual", 0, 0), ("form", 0)), [0, 3, 5, 3])


class BothAndMeet(unittest.TestCase):
    def test_both(self):
        self.assertEqual(
            run(("put", 0, 4, [12]), ("put", 1, 4, [10, 1]), ("both", 0, 1, 2), ("form", 2))[2:],
            [[0, 4, 3], [0, 4, 10, 6, 1]])

    def test_meet(self):
        self.assertEqual(
            run(("put", 0, 4, [12, 3]), ("put", 1, 4, [10, 5]), ("meet", 0, 1, 2), ("form", 2))[2:],
            [[0, 4, 1], [0, 4, 15]])
        self.assertEqual(last(("put", 0, 4, [12]), ("put", 1, 4, [10]), ("meet", 0, 1, 2)), [0, 4, 0])

    def test_with_0_alone_and_with_all_words(self):
        for n, rows in ((1, [1]), (4, [9, 6]), (10, [1023, 31])):
            every = [2 ** i for i in range(n)]
            code = [0, n] + form_by_words(span(rows))
            start = [("put", 0, n, rows), ("put", 1, n, []), ("put", 2, n, every)]
            self.assertEqual(last(*start, ("both", 0, 1, 3), ("form", 3)), code)
            self.assertEqual(last(*start, ("both", 0, 2, 3), ("form", 3)), [0, n] + every[::-1])
            self.assertEqual(last(*start, ("meet", 0, 1, 3), ("form", 3)), [0, n])
            self.assertEqual(last(*start, ("meet", 0, 2, 3), ("form", 3)), code)
            self.assertEqual(last(*start, ("meet", 2, 0, 3), ("form", 3)), code)

    def test_a_slot_with_itself_into_itself(self):
        for name in ("both", "meet"):
            self.assertEqual(
                run(("put", 0, 4, [12, 10]), (name, 0, 0, 0), ("form", 0))[1:], [[0, 4, 2], [0, 4, 10, 6]])

    def test_into_the_first_or_the_second(self):
        start = [("put", 0, 4, [12, 3]), ("put", 1, 4, [10, 5])]
        for name, form in (("both", [0, 4, 9, 5, 3]), ("meet", [0, 4, 15])):
            self.assertEqual(run(*start, (name, 0, 1, 0), ("form", 0), ("form", 1))[3:], [form, [0, 4, 10, 5]])
            self.assertEqual(run(*start, (name, 0, 1, 1), ("form", 0), ("form", 1))[3:], [[0, 4, 12, 3], form])


class PunctureAndShorten(unittest.TestCase):
    def test_puncture(self):
        start = ("put", 0, 4, [13, 6])
        self.assertEqual(last(start, ("puncture", 0, 0, 1), ("form", 1)), [0, 3, 5, 3])
        self.assertEqual(last(start, ("puncture", 0, 1, 1), ("form", 1)), [0, 3, 5, 2])
        self.assertEqual(last(start, ("puncture", 0, 2, 1), ("form", 1)), [0, 3, 5, 2])
        self.assertEqual(last(start, ("puncture", 0, 3, 1), ("form", 1)), [0, 3, 5, 3])
        self.assertEqual(last(start, ("puncture", 0, 3, 1)), [0, 3, 2])

    def test_puncture_may_lose_a_row(self):
        self.assertEqual(
            run(("put", 0, 3, [4, 3]), ("puncture", 0, 2, 1), ("form", 1))[1:], [[0, 2, 1], [0, 2, 3]])

    def test_shorten(self):
        start = ("put", 0, 4, [13, 6])
        self.assertEqual(last(start, ("shorten", 0, 0, 1), ("form", 1)), [0, 3, 3])
        self.assertEqual(last(start, ("shorten", 0, 1, 1), ("form", 1)), [0, 3, 7])
        self.assertEqual(last(start, ("shorten", 0, 2, 1), ("form", 1)), [0, 3, 7])
        self.assertEqual(last(start, ("shorten", 0, 3, 1), ("form", 1)), [0, 3, 6])
        self.assertEqual(last(start, ("shorten", 0, 3, 1)), [0, 3, 1])

    def test_shorten_may_lose_no_row(self):
        self.assertEqual(
            run(("put", 0, 3, [4, 2]), ("shorten", 0, 0, 1), ("form", 1))[1:], [[0, 2, 2], [0, 2, 2, 1]])

    def test_0_alone_and_all_words(self):
        for name in ("puncture", "shorten"):
            for n in range(2, 11):
                every = [2 ** i for i in range(n)]
                for i in range(n):
                    self.assertEqual(last(("put", 0, n, []), (name, 0, i, 0), ("form", 0)), [0, n - 1])
                    self.assertEqual(
                        last(("put", 0, n, every), (name, 0, i, 0), ("form", 0)), [0, n - 1] + every[n - 2::-1])

    def test_into_its_own_slot(self):
        self.assertEqual(last(("put", 5, 4, [13, 6]), ("puncture", 5, 0, 5), ("form", 5)), [0, 3, 5, 3])
        self.assertEqual(last(("put", 5, 4, [13, 6]), ("shorten", 5, 0, 5), ("form", 5)), [0, 3, 3])

    def test_the_bit_may_have_a_number_above_7(self):
        for i in (8, 9):
            self.assertEqual(last(("put", 0, 10, [1 + 2 ** i]), ("puncture", 0, i, 1), ("form", 1)), [0, 9, 1])
            self.assertEqual(last(("put", 0, 10, [1 + 2 ** i]), ("shorten", 0, i, 1), ("form", 1)), [0, 9])


class Extend(unittest.TestCase):
    def test_ordinary(self):
        self.assertEqual(run(("put", 0, 3, [1, 6]), ("extend", 0, 1), ("form", 1))[1:], [[0, 4, 2], [0, 4, 9, 6]])
        self.assertEqual(last(("put", 0, 7, HAMMING), ("extend", 0, 1), ("weights", 1)), [0, 1, 0, 0, 0, 14, 0, 0, 0, 1])

    def test_one_bit_and_nine_bits(self):
        self.assertEqual(last(("put", 0, 1, [1]), ("extend", 0, 1), ("form", 1)), [0, 2, 3])
        self.assertEqual(last(("put", 0, 9, [511]), ("extend", 0, 1), ("form", 1)), [0, 10, 1023])

    def test_0_alone_and_all_words(self):
        for n in range(1, 10):
            self.assertEqual(last(("put", 0, n, []), ("extend", 0, 1), ("form", 1)), [0, n + 1])
            told = last(("put", 0, n, [2 ** i for i in range(n)]), ("extend", 0, 1), ("weights", 1))[1:]
            self.assertEqual(sum(told), 2 ** n)
            self.assertEqual(sum(told[1::2]), 0)

    def test_into_its_own_slot(self):
        self.assertEqual(last(("put", 0, 3, [1, 6]), ("extend", 0, 0), ("form", 0)), [0, 4, 9, 6])


class BesideAndDouble(unittest.TestCase):
    def test_beside(self):
        start = [("put", 0, 3, [5, 6]), ("put", 1, 2, [3])]
        self.assertEqual(run(*start, ("beside", 0, 1, 2), ("form", 2))[2:], [[0, 5, 3], [0, 5, 24, 5, 3]])
        self.assertEqual(last(*start, ("beside", 1, 0, 2), ("form", 2)), [0, 5, 20, 12, 3])

    def test_double(self):
        start = [("put", 0, 2, [1, 2]), ("put", 1, 2, [3])]
        self.assertEqual(run(*start, ("double", 0, 1, 2), ("form", 2))[2:], [[0, 4, 3], [0, 4, 9, 5, 3]])
        self.assertEqual(last(*start, ("double", 1, 0, 2), ("form", 2)), [0, 4, 8, 4, 3])

    def test_one_bit_and_one_bit(self):
        start = [("put", 0, 1, [1])]
        self.assertEqual(last(*start, ("beside", 0, 1, 2), ("form", 2)), [0, 2, 1])
        self.assertEqual(last(*start, ("beside", 1, 0, 2), ("form", 2)), [0, 2, 2])
        self.assertEqual(last(*start, ("double", 0, 1, 2), ("form", 2)), [0, 2, 3])
        self.assertEqual(last(*start, ("double", 1, 0, 2), ("form", 2)), [0, 2, 2])

    def test_0_alone_and_all_words(self):
        zero, every = ("put", 0, 5, []), ("put", 1, 5, [1, 2, 4, 8, 16])
        for name in ("beside", "double"):
            self.assertEqual(last(zero, every, (name, 0, 0, 2), ("form", 2)), [0, 10])
            self.assertEqual(last(zero, every, (name, 1, 1, 2), ("form", 2)), [0, 10] + ALL_TEN[::-1])
            self.assertEqual(last(zero, every, (name, 0, 1, 2), ("form", 2)), [0, 10, 512, 256, 128, 64, 32])

    def test_a_slot_with_itself_into_itself(self):
        self.assertEqual(last(("put", 0, 3, [5, 6]), ("beside", 0, 0, 0), ("form", 0)), [0, 6, 40, 24, 5, 3])
        self.assertEqual(last(("put", 0, 3, [5]), ("double", 0, 0, 0), ("form", 0)), [0, 6, 40, 5])

    def test_into_the_first_or_the_second(self):
        start = [("put", 0, 2, [1, 2]), ("put", 1, 2, [3])]
        for name, form in (("beside", [0, 4, 12, 2, 1]), ("double", [0, 4, 9, 5, 3])):
            self.assertEqual(run(*start, (name, 0, 1, 0), ("form", 0), ("form", 1))[3:], [form, [0, 2, 3]])
            self.assertEqual(run(*start, (name, 0, 1, 1), ("form", 0), ("form", 1))[3:], [[0, 2, 2, 1], form])


class Weights(unittest.TestCase):
    def test_ordinary(self):
        self.assertEqual(last(("put", 0, 7, HAMMING), ("weights", 0)), [0, 1, 0, 0, 7, 7, 0, 0, 1])
        self.assertEqual(last(("put", 0, 4, [7]), ("weights", 0)), [0, 1, 0, 0, 1, 0])

    def test_one_bit_and_ten_bits(self):
        self.assertEqual(last(("put", 0, 1, [1]), ("weights", 0)), [0, 1, 1])
        self.assertEqual(last(("put", 0, 10, [1023]), ("weights", 0)), [0, 1] + [0] * 9 + [1])

    def test_0_alone_and_all_words(self):
        for n in range(1, 11):
            self.assertEqual(last(("put", 0, n, []), ("weights", 0)), [0, 1] + [0] * n)
        self.assertEqual(last(("put", 0, 10, ALL_TEN), ("weights", 0)), [0, 1, 10, 45, 120, 210, 252, 210, 120, 45, 10, 1])


class Least(unittest.TestCase):
    def test_ordinary(self):
        self.assertEqual(last(("put", 0, 7, HAMMING), ("least", 0)), [0, 3, 13])
        self.assertEqual(last(("put", 0, 4, [7, 8]), ("least", 0)), [0, 1, 8])

    def test_of_several_the_least_number(self):
        self.assertEqual(last(("put", 0, 4, [12, 6]), ("least", 0)), [0, 2, 6])
        self.assertEqual(last(("put", 0, 4, [11, 7]), ("least", 0)), [0, 2, 12])

    def test_one_bit_and_ten_bits(self):
        self.assertEqual(last(("put", 0, 1, [1]), ("least", 0)), [0, 1, 1])
        self.assertEqual(last(("put", 0, 10, [1023]), ("least", 0)), [0, 10, 1023])
        self.assertEqual(last(("put", 0, 10, [1023, 992]), ("least", 0)), [0, 5, 31])

    def test_all_words(self):
        for n in range(1, 11):
            self.assertEqual(last(("put", 0, n, [2 ** i for i in range(n)]), ("least", 0)), [0, 1, 1])


class OtherSlots(unittest.TestCase):
    def test_all_but_the_target_stay_as_they_were(self):
        filled = [("put", slot, 3, [(slot + 1) % 8, 5]) for slot in range(8)]
        before = run(*filled, *FORMS)[8:]
        for name, shape in SHAPES.items():
            for target in range(8):
                places = {"o": 2, "p": 6, "q": target, "i": 1, "n": 5, "r": [21, 9], "x": 3, "y": 6, "m": 1, "k": 1}
                if "q" not in shape:
                    places["o"] = target
                after = run(*filled, (name, *[places[letter] for letter in shape]), *FORMS)[8:]
                self.assertEqual(after[0][0], 0, name)
                changed = [slot for slot in range(8) if before[slot] != after[1 + slot]]
                self.assertIn(changed, [[], [target]] if name in FILLING else [[]], name)


if __name__ == "__main__":
    unittest.main()
