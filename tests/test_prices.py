"""Promise 1, pair and prices."""

import unittest

from tests.helper import ask, gone, last, pair, phrase, prices, translate

HUGE = 4294967295
TWENTY = [pair(number, 99, 5) for number in range(20)]
ONE = phrase(0, [1], [7])


class Pairs(unittest.TestCase):
    def test_answers_how_many_are_told_then(self):
        told = ask(pair(1, 2, 3), pair(2, 1, 3), pair(1, 2, 4), pair(0, 0, 0), pair(2, 1, 1000))
        self.assertEqual(told, [[1], [2], [2], [3], [2]])

    def test_costs_so_much_behind_the_first(self):
        told = last(ONE, pair(0, 7, 30), pair(7, 0, 400), pair(7, 7, 900), translate(1))
        self.assertEqual(told, [430, 1, 0, 0, 1, 7])

    def test_second_behind_first_and_not_the_other_way_round(self):
        told = last(phrase(0, [1], [7, 8]), pair(7, 8, 5), pair(8, 7, 60), translate(1))
        self.assertEqual(told, [5, 1, 0, 0, 2, 7, 8])

    def test_word_behind_itself(self):
        told = last(phrase(0, [1], [7, 7, 7]), pair(7, 7, 5), translate(1))
        self.assertEqual(told, [10, 1, 0, 0, 3, 7, 7, 7])

    def test_told_anew(self):
        told = ask(ONE, pair(0, 7, 30), pair(0, 7, 2), translate(1))
        self.assertEqual(told[1:], [[1], [1], [2, 1, 0, 0, 1, 7]])

    def test_told_no_more_costs_other(self):
        told = ask(prices(9, 1, 6), ONE, pair(0, 7, 30), translate(1), pair(0, 7, 1000), translate(1))
        self.assertEqual(told[2:], [[1], [39, 1, 0, 0, 1, 7], [0], [18, 1, 0, 0, 1, 7]])

    def test_told_with_cost_0_is_told(self):
        told = ask(prices(9, 1, 6), ONE, pair(0, 7, 0), translate(1))
        self.assertEqual(told[2:], [[1], [9, 1, 0, 0, 1, 7]])

    def test_told_no_more_and_then_again(self):
        told = ask(pair(1, 2, 3), pair(1, 2, 1000), pair(1, 2, 1000), pair(1, 2, 4))
        self.assertEqual(told, [[1], [0], [0], [1]])


class PairEdges(unittest.TestCase):
    def test_words(self):
        for word, answer in ((0, 1), (1, 1), (99, 1), (100, -1), (HUGE, -1)):
            with self.subTest(word=word):
                self.assertEqual(ask(pair(word, 1, 2)), [[answer]])
                self.assertEqual(ask(pair(1, word, 2)), [[answer]])
                self.assertEqual(ask(pair(word, word, 2)), [[answer]])

    def test_cost(self):
        for cost, answer in ((0, 1), (999, 1), (1000, 0), (1001, -1), (HUGE, -1)):
            with self.subTest(cost=cost):
                self.assertEqual(ask(pair(1, 2, cost)), [[answer]])

    def test_cost_999_is_paid(self):
        self.assertEqual(last(ONE, pair(0, 7, 999), translate(1)), [999, 1, 0, 0, 1, 7])

    def test_twenty_and_one_more(self):
        self.assertEqual(ask(*TWENTY, pair(20, 99, 5))[-2:], [[20], [-5]])

    def test_one_that_is_told_when_twenty_are(self):
        told = ask(*TWENTY, pair(0, 99, 8), phrase(0, [1], [99]), translate(1))
        self.assertEqual(told[20:], [[20], [0], [8, 1, 0, 0, 1, 99]])

    def test_1000_when_twenty_are_told(self):
        told = ask(*TWENTY, pair(20, 99, 1000), pair(3, 99, 1000), pair(20, 99, 5), pair(3, 99, 5))
        self.assertEqual(told[20:], [[20], [19], [20], [-5]])

    def test_wrong_and_full_is_wrong(self):
        self.assertEqual(last(*TWENTY, pair(100, 1, 5)), [-1])
        self.assertEqual(last(*TWENTY, pair(20, 99, 1001)), [-1])

    def test_wrong_word_is_wrong_with_1000_too(self):
        self.assertEqual(ask(pair(100, 1, 1000), pair(1, 100, 1000)), [[-1], [-1]])


class PairRefused(unittest.TestCase):
    def test_wrong_leaves_all_as_it_was(self):
        for call in (pair(0, 7, 1001), pair(100, 7, 1), pair(0, 100, 1)):
            told = ask(ONE, pair(0, 7, 4), call, translate(1), pair(50, 50, 1))
            self.assertEqual(told[2:], [[-1], [4, 1, 0, 0, 1, 7], [2]])

    def test_full_leaves_all_as_it_was(self):
        told = ask(*TWENTY, pair(0, 7, 300), ONE, translate(1), pair(4, 99, 1000))
        self.assertEqual(told[20:], [[-5], [0], [0, 1, 0, 0, 1, 7], [19]])


class Prices(unittest.TestCase):
    TWO = [phrase(0, [1], [7]), phrase(0, [2], [8]), pair(0, 8, 0), pair(0, 7, 500)]

    def test_answers_0(self):
        self.assertEqual(ask(prices(1, 2, 3), prices(0, 0, 0)), [[0], [0]])

    def test_other_at_the_beginning_is_0(self):
        self.assertEqual(last(ONE, translate(1)), [0, 1, 0, 0, 1, 7])

    def test_jump_at_the_beginning_is_1(self):
        self.assertEqual(last(*self.TWO, translate(1, 2)), [3, 2, 1, 1, 0, 0, 2, 8, 7])

    def test_wide_at_the_beginning_lets_every_jump_pass(self):
        told = last(phrase(0, [1], [7]), phrase(0, [2], [8]), phrase(0, [3, 3, 3], [9]),
                    pair(0, 7, 999), pair(0, 9, 999), pair(7, 0, 999), pair(8, 0, 999),
                    translate(1, 3, 3, 3, 2))
        self.assertEqual(told, [9, 3, 4, 1, 0, 0, 1, 2, 3, 8, 7, 9])

    def test_other_is_paid_for_all_pairs_not_told(self):
        told = last(prices(100, 1, 6), phrase(0, [1], [7, 8]), pair(7, 8, 3), translate(1))
        self.assertEqual(told, [203, 1, 0, 0, 2, 7, 8])

    def test_jump_is_paid_for_each_word_of_width(self):
        told = last(*self.TWO, prices(0, 10, 6), translate(1, 2))
        self.assertEqual(told, [30, 2, 1, 1, 0, 0, 2, 8, 7])

    def test_jump_may_cost_nothing(self):
        told = last(*self.TWO, prices(0, 0, 6), translate(1, 2))
        self.assertEqual(told, [0, 2, 1, 1, 0, 0, 2, 8, 7])

    def test_edges(self):
        for number, answer in ((0, 0), (999, 0), (1000, -1), (HUGE, -1)):
            with self.subTest(number=number):
                self.assertEqual(ask(prices(number, 1, 6)), [[answer]])
                self.assertEqual(ask(prices(1, number, 6)), [[answer]])
        for wide, answer in ((0, 0), (6, 0), (7, -1), (HUGE, -1)):
            with self.subTest(wide=wide):
                self.assertEqual(ask(prices(1, 1, wide)), [[answer]])

    def test_refused_leaves_all_as_it_was(self):
        for call in (prices(1000, 3, 0), prices(3, 1000, 0), prices(3, 3, 7)):
            told = ask(*self.TWO, prices(20, 5, 2), call, translate(1, 2), gone(0))
            self.assertEqual(told[5:], [[-1], [55, 2, 1, 1, 0, 0, 2, 8, 7], [1]])


if __name__ == "__main__":
    unittest.main()
