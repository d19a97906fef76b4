"""The call phrases."""

import unittest

from tests.helper import ask, cost, force, gone, last, pair, phrase, phrases, prices, some, translate


class Phrases(unittest.TestCase):
    def test_none(self):
        self.assertEqual(ask(phrases()), [[0]])
        self.assertEqual(last(phrase(1, [2], [3]), gone(0), phrases()), [0])

    def test_one(self):
        self.assertEqual(last(phrase(5, [1], [7]), phrases()), [1, 0, 5, 1, 1, 1, 7])

    def test_number_cost_source_target(self):
        told = last(phrase(5, [1, 2, 3], [7]), phrase(0, [4, 4], [8, 9, 9]), phrases())
        self.assertEqual(told, [2, 0, 5, 3, 1, 2, 3, 1, 7, 1, 0, 2, 4, 4, 3, 8, 9, 9])

    def test_targets_without_words(self):
        told = last(phrase(5, [1], []), phrase(6, [2, 1], []), phrases())
        self.assertEqual(told, [2, 0, 5, 1, 1, 0, 1, 6, 2, 2, 1, 0])

    def test_six_and_no_seventh(self):
        row = [phrase(999 - number, [99 - number], [number + 1]) for number in range(6)]
        wanted = [6]
        for number in range(6):
            wanted += [number, 999 - number, 1, 99 - number, 1, number + 1]
        self.assertEqual(last(*row, phrases()), wanted)
        self.assertEqual(ask(*row, phrase(1, [1], [1]), phrases())[-2:], [[-5], wanted])

    def test_the_same_phrase_twice(self):
        self.assertEqual(last(phrase(5, [1], [7]), phrase(5, [1], [7]), phrases()),
                         [2, 0, 5, 1, 1, 1, 7, 1, 5, 1, 1, 1, 7])

    def test_behind_phrases_that_have_gone(self):
        row = [phrase(number, [number + 1], []) for number in range(4)]
        told = ask(*row, gone(1), phrases(), gone(3), gone(0), phrases(), phrase(7, [9], [8]), phrases())
        self.assertEqual(told[5], [3, 0, 0, 1, 1, 0, 2, 2, 1, 3, 0, 3, 3, 1, 4, 0])
        self.assertEqual(told[8], [1, 2, 2, 1, 3, 0])
        self.assertEqual(told[10], [2, 2, 2, 1, 3, 0, 4, 7, 1, 9, 1, 8])

    def test_refused_ones_are_not_there(self):
        told = ask(phrase(1000, [1], [7]), phrase(1, [], [7]), phrase(1, [1], [100]), phrases(),
                   phrase(1, [1], [7]), gone(1), phrases())
        self.assertEqual(told[3:], [[0], [0], [-2], [1, 0, 1, 1, 1, 1, 7]])

    def test_the_other_calls_leave_them(self):
        row = [phrase(5, [1, 1], [7]), phrase(3, [1], [])]
        wanted = [2, 0, 5, 2, 1, 1, 1, 7, 1, 3, 1, 1, 0]
        for call in (pair(0, 7, 3), prices(1, 1, 1), translate(1, 1, 1), force([1, 1], [7]),
                     cost([1, 1], (0, 0)), some(5, 1, 1, 1), phrases(), gone(2), translate(9)):
            with self.subTest(call=call):
                told = ask(*row, phrases(), call, phrases())
                self.assertEqual([told[2], told[4]], [wanted, wanted])


if __name__ == "__main__":
    unittest.main()
