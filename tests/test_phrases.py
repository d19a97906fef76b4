"""Promise 1, phrase and gone."""

import unittest

from tests.helper import ask, gone, last, phrase, translate

HUGE = 4294967295
SIX = [phrase(number, [number + 1], [number + 11]) for number in range(6)]


class PhraseNumbers(unittest.TestCase):
    def test_numbers_go_from_0_on(self):
        self.assertEqual(ask(*SIX), [[0], [1], [2], [3], [4], [5]])

    def test_the_same_phrase_twice_has_two_numbers(self):
        self.assertEqual(ask(phrase(1, [2], [3]), phrase(1, [2], [3])), [[0], [1]])

    def test_no_number_is_given_twice(self):
        one = phrase(1, [2], [3])
        told = ask(one, one, gone(1), one, gone(0), gone(2), one)
        self.assertEqual(told, [[0], [1], [1], [2], [1], [0], [3]])

    def test_a_later_number_is_the_one_in_a_way(self):
        told = last(phrase(1, [2], [3]), gone(0), phrase(4, [2], [5]), translate(2))
        self.assertEqual(told, [4, 1, 0, 1, 1, 5])


class PhraseEdges(unittest.TestCase):
    def check(self, call, answer):
        self.assertEqual(ask(call), [[answer]])

    def test_source_length(self):
        self.check(phrase(1, [], [1]), -1)
        self.check(phrase(1, [1], [1]), 0)
        self.check(phrase(1, [1, 2, 3], [1]), 0)
        self.check(phrase(1, [1, 2, 3, 4], [1]), -1)
        self.check(phrase(1, [1, 2, 3, 4, 5, 6], [1]), -1)

    def test_target_length(self):
        self.check(phrase(1, [1], []), 0)
        self.check(phrase(1, [1], [1, 2, 3]), 0)
        self.check(phrase(1, [1], [1, 2, 3, 4]), -1)
        self.check(phrase(1, [1], [1, 2, 3, 4, 5, 6]), -1)

    def test_words(self):
        for word, answer in ((0, -1), (1, 0), (99, 0), (100, -1), (HUGE, -1)):
            with self.subTest(word=word):
                self.check(phrase(1, [word], [1]), answer)
                self.check(phrase(1, [1, 1, word], [1]), answer)
                self.check(phrase(1, [1], [word]), answer)
                self.check(phrase(1, [1], [1, 1, word]), answer)

    def test_cost(self):
        for cost, answer in ((0, 0), (999, 0), (1000, -1), (HUGE, -1)):
            with self.subTest(cost=cost):
                self.check(phrase(cost, [1], [1]), answer)

    def test_six_and_one_more(self):
        self.assertEqual(ask(*SIX, phrase(0, [7], [7]))[-2:], [[5], [-5]])

    def test_one_more_when_one_of_six_has_gone(self):
        told = ask(*SIX, gone(2), phrase(0, [7], [7]), phrase(0, [8], [8]))
        self.assertEqual(told[-3:], [[5], [6], [-5]])

    def test_wrong_and_full_is_wrong(self):
        self.assertEqual(last(*SIX, phrase(1000, [7], [7])), [-1])


class PhraseRefused(unittest.TestCase):
    WRONG = [phrase(1000, [1], [2]), phrase(0, [], [2]), phrase(0, [1, 1, 1, 1], [2]),
             phrase(0, [1], [2, 2, 2, 2]), phrase(0, [0], [2]), phrase(0, [1], [100])]

    def test_no_number_is_used_up(self):
        for call in self.WRONG:
            told = ask(phrase(1, [9], [9]), call, phrase(1, [9], [9]))
            self.assertEqual(told, [[0], [-1], [1]])

    def test_no_phrase_has_come(self):
        for call in self.WRONG:
            told = ask(call, phrase(7, [1], [3]), translate(1), gone(0))
            self.assertEqual(told, [[-1], [0], [7, 1, 0, 0, 1, 3], [0]])

    def test_full_leaves_all_as_it_was(self):
        told = ask(*SIX, phrase(0, [1], [50]), translate(1), gone(6), gone(0), phrase(3, [1], [4]))
        self.assertEqual(told[6:], [[-5], [0, 1, 0, 0, 1, 11], [-2], [5], [6]])


class Gone(unittest.TestCase):
    def test_answers_how_many_there_are_then(self):
        told = ask(*SIX, gone(3), gone(0), gone(5), gone(1), gone(2), gone(4))
        self.assertEqual(told[6:], [[5], [4], [3], [2], [1], [0]])

    def test_no_such_phrase(self):
        self.assertEqual(ask(gone(0)), [[-2]])
        self.assertEqual(last(phrase(1, [1], [1]), gone(1)), [-2])
        self.assertEqual(last(phrase(1, [1], [1]), gone(HUGE)), [-2])

    def test_gone_already(self):
        one = phrase(1, [1], [1])
        self.assertEqual(ask(one, one, gone(0), gone(0), gone(1))[2:], [[1], [-2], [0]])

    def test_just_that_phrase_has_gone(self):
        told = ask(phrase(1, [1], [2]), phrase(2, [1], [3]), phrase(3, [1], [4]),
                   gone(0), translate(1), gone(1), translate(1), gone(2), translate(1))
        self.assertEqual(told[3:], [[2], [2, 1, 0, 1, 1, 3], [1], [3, 1, 0, 2, 1, 4], [0], [-6]])

    def test_refused_leaves_all_as_it_was(self):
        told = ask(phrase(1, [1], [2]), gone(7), translate(1), phrase(0, [5], [5]), gone(0))
        self.assertEqual(told, [[0], [-2], [1, 1, 0, 0, 1, 2], [1], [1]])


if __name__ == "__main__":
    unittest.main()
