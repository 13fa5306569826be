"""How calls are handed in and answers given back."""

import unittest

import shortcodes.benches
from shortcodes.benches import answers
from tests.helper import FORMS, HAMMING, HUGE, NEW_FORMS, run, split, written


class Written(unittest.TestCase):
    def test_no_calls_no_answers(self):
        self.assertEqual(answers([]), [])

    def test_by_the_packages_name(self):
        self.assertEqual(shortcodes.benches.answers([11, 0]), [3, 0, 1, 0])

    def test_each_call_by_its_number(self):
        put = [1, 0, 3, 2, 5, 6]
        self.assertEqual(answers(put), [3, 0, 3, 2])
        self.assertEqual(answers(put + [2, 0]), [3, 0, 3, 2, 4, 0, 3, 5, 3])
        self.assertEqual(answers(put + [3, 0, 1]), [3, 0, 3, 2, 3, 0, 3, 1])
        self.assertEqual(answers(put + [4, 0, 0, 1]), [3, 0, 3, 2, 3, 0, 3, 2])
        self.assertEqual(answers(put + [5, 0, 0, 1]), [3, 0, 3, 2, 3, 0, 3, 2])
        self.assertEqual(answers(put + [6, 0, 2, 1]), [3, 0, 3, 2, 3, 0, 2, 2])
        self.assertEqual(answers(put + [7, 0, 2, 1]), [3, 0, 3, 2, 3, 0, 2, 1])
        self.assertEqual(answers(put + [8, 0, 1]), [3, 0, 3, 2, 3, 0, 4, 2])
        self.assertEqual(answers(put + [9, 0, 1, 2]), [3, 0, 3, 2, 3, 0, 4, 2])
        self.assertEqual(answers(put + [10, 0, 0, 2]), [3, 0, 3, 2, 3, 0, 6, 4])
        self.assertEqual(answers(put + [11, 0]), [3, 0, 3, 2, 5, 0, 1, 0, 3, 0])
        self.assertEqual(answers(put + [12, 0]), [3, 0, 3, 2, 3, 0, 2, 3])

    def test_each_call_that_only_tells_by_its_number(self):
        put = [1, 0, 3, 2, 5, 6]
        behind = {
            (13, 0, 6): [2, 0, 1],
            (14, 0, 4): [4, 0, 1, 0, 3],
            (15, 0): [3, 0, 1, 1],
            (16, 0, 4): [2, 0, 1],
            (17, 0): [5, 0, 1, 1, 0, 0],
            (18, 0, 4): [2, 0, 1],
            (19, 0, 1): [2, 0, 5],
            (20, 0, 7): [3, 0, 2, 1],
            (21, 0, 0): [2, 0, 1],
            (22, 0, 0): [2, 0, 1],
            (23, 0): [2, 0, 17],
            (24, 0, 1): [2, 0, 3],
        }
        for call, told in behind.items():
            self.assertEqual(answers(put + list(call)), [3, 0, 3, 2] + told, call)
            self.assertEqual(answers(put + list(call) + [2, 0]), [3, 0, 3, 2] + told + [4, 0, 3, 5, 3], call)

    def test_put_without_rows(self):
        self.assertEqual(answers([1, 0, 4, 0, 2, 0]), [3, 0, 4, 0, 2, 0, 4])

    def test_refusals_stand_with_their_count(self):
        self.assertEqual(answers([12, 0, 2, 8, 6, 0, 0, 0, 2, 0]), [1, -5, 1, -1, 1, -2, 2, 0, 1])
        self.assertEqual(answers([14, 0, 2, 19, 0, 1, 24, 0, HUGE, 15, HUGE, 23, 0]), [1, -1] * 4 + [2, 0, 55])
        self.assertEqual(answers([1, 0, 2, 0, 22, 0, 1, 21, 0, 1]), [3, 0, 2, 0, 1, -2, 2, 0, 0])

    def test_numbers_that_look_like_calls_are_read_as_what_they_are(self):
        self.assertEqual(answers([1, 2, 3, 4, 1, 2, 3, 4, 2, 2]), [3, 0, 3, 3, 5, 0, 3, 4, 2, 1])
        self.assertEqual(answers([1, 0, 5, 3, 14, 15, 23, 14, 0, 23]), [3, 0, 5, 3, 4, 0, 0, 23, 1])


class Long(unittest.TestCase):
    def test_sixty_calls(self):
        calls = [("put", 0, 10, HAMMING)] + [("dual", 0, 0) for _ in range(58)] + [("weights", 0)]
        told = run(*calls)
        self.assertEqual(len(told), 60)
        self.assertEqual(told[:3], [[0, 10, 4], [0, 10, 6], [0, 10, 4]])
        self.assertEqual(told[59], [0, 1, 0, 0, 7, 7, 0, 0, 1, 0, 0, 0])

    def test_sixty_calls_of_sixty_four_rows(self):
        calls = [("put", call % 8, 10, [(call * 64 + row) % 1024 for row in range(64)]) for call in range(60)]
        for call, told in zip(calls, run(*calls)):
            self.assertEqual(told[:2], [0, 10], call)

    def test_sixty_puts_of_two_hundred_rows(self):
        calls = [("put", call % 8, 10, [HUGE] * 200) for call in range(60)]
        self.assertEqual(run(*calls), [[-1]] * 60)

    def test_sixty_calls_on_all_words(self):
        every = ("put", 0, 10, [2 ** i for i in range(10)])
        calls = [every] + [("meet", 0, 0, 1), ("weights", 0), ("least", 0), ("shorten", 0, 9, 2)] * 14
        self.assertEqual(run(*calls)[-4:], run(*calls)[1:5])


    def test_sixty_calls_that_look_at_all_words_of_ten_bits(self):
        for rows in ([], [2 ** i for i in range(5)], [2 ** i for i in range(10)]):
            told = [("near", 0, 1023), ("radius", 0), ("leader", 0, 1023), ("leaders", 0), ("decode", 0, 1023),
                    ("kind", 0), ("word", 0, 0), ("syndrome", 0, 1023)]
            calls = [("put", 0, 10, rows)] + told * 7
            self.assertEqual(run(*calls)[-8:], run(*calls)[1:9])


class Kept(unittest.TestCase):
    CALLS = [
        ("put", 0, 7, HAMMING), ("near", 0, 12), ("dual", 0, 1), ("syndrome", 0, 5), ("form", 1), ("leaders", 1),
        ("put", 2, 3, [9]), ("within", 1, 0), ("extend", 0, 0), ("kind", 0), ("form", 0), ("decode", 0, 200),
        ("least", 0), ("radius", 0), ("weights", 0), ("leader", 0, 200), ("both", 1, 1, 3), ("same", 1, 3),
        ("meet", 0, 1, 4), ("holds", 0, 200), ("shorten", 1, 2, 5), ("word", 5, 1), ("puncture", 1, 2, 6),
        ("encode", 6, 3), ("beside", 7, 7, 7), ("near", 7, 4), ("double", 7, 7, 7), ("encode", 7, 1),
    ]

    def test_what_is_handed_in_is_the_same_afterwards(self):
        numbers = written(self.CALLS)
        before = list(numbers)
        answers(numbers)
        self.assertEqual(numbers, before)

    def test_what_is_handed_in_is_not_changed_for_a_while_either(self):
        self.assertEqual(answers(ReadOnly(written(self.CALLS))), answers(written(self.CALLS)))

    def test_runs_do_not_know_of_each_other(self):
        first = run(*self.CALLS)
        self.assertEqual(run(*FORMS), NEW_FORMS)
        self.assertEqual(run(*self.CALLS), first)

    def test_what_is_given_back_is_the_callers_own(self):
        numbers = written(self.CALLS)
        told = answers(numbers)
        copy = list(told)
        told.clear()
        self.assertEqual(answers(numbers), copy)

    def test_lists_of_whole_numbers(self):
        told = answers(written(self.CALLS + [("weights", 0), ("least", 0), ("least", 5), ("weights", 9)]))
        self.assertIs(type(told), list)
        self.assertEqual({type(number) for number in told}, {int})
        self.assertEqual(len(split(told)), len(self.CALLS) + 4)


class ReadOnly(list):
    """A list that no one may change."""

    def refuse(self, *parts, **named):
        raise AssertionError("the list that was handed in is changed")

    append = extend = insert = remove = pop = clear = sort = reverse = refuse
    __setitem__ = __delitem__ = __iadd__ = __imul__ = refuse


if __name__ == "__main__":
    unittest.main()
