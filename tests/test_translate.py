"""Promise 2, translate, and what the document says of ways."""

import unittest

from tests.helper import ask, gone, last, pair, phrase, prices, translate

HUGE = 4294967295


class Ways(unittest.TestCase):
    def test_one_word(self):
        self.assertEqual(last(phrase(5, [1], [7]), translate(1)), [5, 1, 0, 0, 1, 7])

    def test_each_word_is_taken_once(self):
        told = last(phrase(5, [1], [7]), translate(1, 1, 1))
        self.assertEqual(told, [15, 3, 0, 0, 1, 0, 2, 0, 3, 7, 7, 7])

    def test_sources_of_1_to_3_words(self):
        told = last(phrase(1, [1], [7]), phrase(2, [2, 3], [8]), phrase(3, [4, 5, 6], [9]),
                    translate(2, 3, 4, 5, 6))
        self.assertEqual(told, [5, 2, 0, 1, 2, 2, 2, 8, 9])

    def test_targets_of_0_to_3_words(self):
        told = last(phrase(0, [1], []), phrase(0, [2], [7]), phrase(0, [3], [7, 8]),
                    phrase(0, [4], [7, 8, 9]), translate(4, 1, 2, 3))
        self.assertEqual(told, [0, 4, 0, 3, 1, 0, 2, 1, 3, 2, 6, 7, 8, 9, 7, 7, 8])

    def test_fifteen_words(self):
        told = last(phrase(999, [1], [7, 8, 9]), prices(999, 999, 6), translate(1, 1, 1, 1, 1))
        steps = [0, 0, 1, 0, 2, 0, 3, 0, 4, 0]
        self.assertEqual(told, [999 * 21, 5] + steps + [15] + [7, 8, 9] * 5)

    def test_a_long_phrase_may_be_cheaper_or_dearer_than_short_ones(self):
        short = [phrase(3, [1], [7]), phrase(3, [2], [8])]
        self.assertEqual(last(*short, phrase(5, [1, 2], [9]), translate(1, 2)), [5, 1, 0, 2, 1, 9])
        told = last(*short, phrase(7, [1, 2], [9]), translate(1, 2))
        self.assertEqual(told, [6, 2, 0, 0, 1, 1, 2, 7, 8])

    def test_a_source_is_taken_in_its_order_and_side_by_side(self):
        two = phrase(0, [1, 2], [7])
        self.assertEqual(last(two, translate(2, 1)), [-6])
        self.assertEqual(last(two, phrase(0, [3], [8]), translate(1, 3, 2)), [-6])

    def test_a_source_does_not_reach_over_the_end(self):
        self.assertEqual(last(phrase(0, [1, 2], [7]), translate(1)), [-6])
        self.assertEqual(last(phrase(0, [1, 1], [7]), translate(1, 1, 1)), [-6])

    def test_words_cost_behind_the_word_of_the_step_before(self):
        told = last(phrase(0, [1], [7, 8]), phrase(0, [2], [9, 6]), prices(0, 50, 6),
                    pair(8, 9, 4), pair(7, 9, 100), translate(1, 2))
        self.assertEqual(told, [4, 2, 0, 0, 1, 1, 4, 7, 8, 9, 6])

    def test_a_phrase_without_words_leaves_the_word_ahead(self):
        told = last(phrase(0, [1], [7]), phrase(2, [2], []), phrase(0, [3], [8]), prices(0, 50, 6),
                    pair(7, 8, 30), pair(0, 8, 600), pair(8, 0, 1), translate(1, 2, 3))
        self.assertEqual(told, [33, 3, 0, 0, 1, 1, 2, 2, 2, 7, 8])

    def test_a_dear_beginning_may_be_the_cheapest_in_the_end(self):
        told = last(phrase(0, [1], [7]), phrase(50, [1], [8]), phrase(0, [2], [9]),
                    prices(0, 900, 6), pair(7, 9, 100), translate(1, 2))
        self.assertEqual(told, [50, 2, 0, 1, 1, 2, 2, 8, 9])

    def test_the_end_may_decide(self):
        told = last(phrase(0, [1], [7]), phrase(50, [1], [8]), pair(7, 0, 51), translate(1))
        self.assertEqual(told, [50, 1, 0, 1, 1, 8])

    def test_several_translations_of_one_machine(self):
        told = ask(phrase(1, [1], [7]), translate(1), translate(2), phrase(1, [2], [8]),
                   translate(2), gone(0), translate(1))
        self.assertEqual(told[1:], [[1, 1, 0, 0, 1, 7], [-6], [1], [1, 1, 0, 1, 1, 8], [1], [-6]])


class Jumps(unittest.TestCase):
    TURNED = [phrase(0, [1], [7]), phrase(0, [2], [8]), phrase(0, [3], [9]), phrase(0, [5], [5]),
              pair(0, 7, 999), pair(0, 8, 999), pair(0, 5, 999)]

    def test_width_is_counted_from_where_the_step_before_ended(self):
        told = last(phrase(0, [1, 2], [7]), phrase(0, [3, 4], [8]), prices(0, 10, 6),
                    pair(0, 7, 999), translate(1, 2, 3, 4))
        self.assertEqual(told, [60, 2, 2, 1, 0, 0, 2, 8, 7])

    def test_the_first_step_jumps_from_0_and_the_last_not_to_the_end(self):
        told = last(*self.TURNED, prices(0, 1, 6), translate(1, 2, 3))
        self.assertEqual(told, [5, 3, 2, 2, 0, 0, 1, 1, 3, 9, 7, 8])

    def test_a_jump_as_wide_as_wide_and_one_wider(self):
        told = last(*self.TURNED, prices(0, 1, 3), translate(1, 2, 3))
        self.assertEqual(told, [5, 3, 2, 2, 0, 0, 1, 1, 3, 9, 7, 8])
        told = last(*self.TURNED, prices(0, 1, 2), translate(1, 2, 3))
        self.assertEqual(told, [6, 3, 2, 2, 1, 1, 0, 0, 3, 9, 8, 7])
        told = last(*self.TURNED, prices(0, 1, 1), translate(1, 2, 3))
        self.assertEqual(told, [999, 3, 0, 0, 1, 1, 2, 2, 3, 7, 8, 9])

    def test_a_first_jump_as_wide_as_wide_and_one_wider(self):
        ahead = [phrase(0, [1], [7]), phrase(0, [2, 2], [8]), pair(0, 7, 999)]
        told = last(*ahead, prices(0, 1, 3), translate(1, 2, 2))
        self.assertEqual(told, [4, 2, 1, 1, 0, 0, 2, 8, 7])
        told = last(*ahead, prices(0, 1, 2), translate(1, 2, 2))
        self.assertEqual(told, [999, 2, 0, 0, 1, 1, 2, 7, 8])

    def test_a_jump_ahead_may_be_too_wide_when_none_back_is(self):
        turned = [phrase(0, [word], [word + 10]) for word in (1, 2, 3, 4)]
        turned += [pair(0, 11, 900), pair(0, 12, 900), pair(0, 13, 900)]
        told = last(*turned, prices(0, 1, 3), translate(1, 2, 3, 4))
        self.assertEqual(told, [8, 4, 3, 3, 2, 2, 0, 0, 1, 1, 4, 14, 13, 11, 12])
        told = last(*turned, prices(0, 1, 2), translate(1, 2, 3, 4))
        self.assertEqual(told, [900, 4, 0, 0, 1, 1, 2, 2, 3, 3, 4, 11, 12, 13, 14])

    def test_where_a_dearer_beginning_ends_may_make_it_the_cheapest(self):
        told = last(phrase(0, [1], [7]), phrase(0, [1], [8]), phrase(0, [3], [6]), phrase(0, [3], [8]),
                    phrase(0, [2], [9]), prices(0, 10, 6), pair(0, 7, 30), pair(0, 8, 999), pair(0, 9, 999),
                    pair(7, 9, 999), pair(6, 9, 999), pair(6, 7, 999), pair(7, 6, 999), translate(1, 2, 3))
        self.assertEqual(told, [50, 3, 2, 2, 0, 1, 1, 4, 3, 6, 8, 9])

    def test_the_widest_jump(self):
        row = [phrase(0, [1], [7]), phrase(0, [2], [8]), phrase(0, [3, 3, 3], [9]), prices(0, 1, 5)]
        dear = [pair(0, 7, 999), pair(0, 9, 999), pair(7, 0, 999), pair(8, 0, 999)]
        told = last(*row, *dear, translate(1, 3, 3, 3, 2))
        self.assertEqual(told, [9, 3, 4, 1, 0, 0, 1, 2, 3, 8, 7, 9])
        told = last(*row, *dear, prices(0, 1, 4), translate(1, 3, 3, 3, 2))
        self.assertEqual(told, [1006, 3, 0, 0, 4, 1, 1, 2, 3, 7, 8, 9])

    def test_wide_0_goes_straight_on(self):
        told = last(*self.TURNED, prices(0, 1, 0), translate(3, 1, 2))
        self.assertEqual(told, [0, 3, 0, 2, 1, 0, 2, 1, 3, 9, 7, 8])
        told = last(*self.TURNED, prices(0, 0, 0), translate(1, 2, 3))
        self.assertEqual(told, [999, 3, 0, 0, 1, 1, 2, 2, 3, 7, 8, 9])

    def test_a_jump_that_costs_nothing_is_held_to_wide_too(self):
        told = last(*self.TURNED, prices(0, 0, 1), translate(1, 2, 3))
        self.assertEqual(told, [999, 3, 0, 0, 1, 1, 2, 2, 3, 7, 8, 9])


class Lengths(unittest.TestCase):
    def test_a_sentence_without_words(self):
        self.assertEqual(ask(translate()), [[0, 0, 0]])
        self.assertEqual(last(prices(8, 1, 6), translate()), [8, 0, 0])
        self.assertEqual(last(prices(8, 1, 6), pair(0, 0, 3), phrase(0, [1], []), translate()), [3, 0, 0])

    def test_a_way_without_words(self):
        told = last(phrase(4, [1], []), prices(8, 1, 6), translate(1, 1))
        self.assertEqual(told, [16, 2, 0, 0, 1, 0, 0])
        told = last(phrase(4, [1], []), prices(8, 1, 6), pair(0, 0, 3), translate(1, 1))
        self.assertEqual(told, [11, 2, 0, 0, 1, 0, 0])

    def test_five_words_and_six(self):
        one = phrase(1, [1], [7])
        told = last(one, translate(1, 1, 1, 1, 1))
        self.assertEqual(told, [5, 5, 0, 0, 1, 0, 2, 0, 3, 0, 4, 0, 5, 7, 7, 7, 7, 7])
        self.assertEqual(last(one, translate(1, 1, 1, 1, 1, 1)), [-1])
        self.assertEqual(last(one, translate(1, 1, 1, 1, 1, 1, 1, 1)), [-1])


class FirstOfAsCheapOnes(unittest.TestCase):
    def test_the_lower_phrase_number(self):
        told = last(phrase(3, [1], [9]), phrase(2, [1], [8]), phrase(2, [1], [7]), translate(1))
        self.assertEqual(told, [2, 1, 0, 1, 1, 8])

    def test_the_lower_number_when_some_have_gone(self):
        told = last(phrase(2, [1], [9]), phrase(2, [1], [8]), phrase(2, [1], [7]), gone(0), translate(1))
        self.assertEqual(told, [2, 1, 0, 1, 1, 8])

    def test_the_lower_word_goes_before_the_lower_phrase(self):
        told = last(phrase(0, [2], [8]), phrase(0, [1], [7]), prices(0, 0, 6), translate(1, 2))
        self.assertEqual(told, [0, 2, 0, 1, 1, 0, 2, 7, 8])

    def test_the_first_step_that_differs_decides(self):
        told = last(phrase(1, [1], [7]), phrase(2, [1, 1], [8]), phrase(1, [1], [9]), prices(0, 0, 6),
                    translate(1, 1, 1))
        self.assertEqual(told, [3, 3, 0, 0, 1, 0, 2, 0, 3, 7, 7, 7])

    def test_fewer_steps_are_no_reason(self):
        long_first = [phrase(2, [1, 1], [8]), phrase(1, [1], [7])]
        told = last(*long_first, translate(1, 1))
        self.assertEqual(told, [2, 1, 0, 0, 1, 8])
        told = last(*reversed(long_first), translate(1, 1))
        self.assertEqual(told, [2, 2, 0, 0, 1, 0, 2, 7, 7])

    def test_lower_words_are_no_reason(self):
        told = last(phrase(0, [1], [9]), phrase(0, [1], [1]), translate(1))
        self.assertEqual(told, [0, 1, 0, 0, 1, 9])

    def test_a_later_step_decides_when_the_first_are_the_same(self):
        told = last(phrase(0, [1], [7]), phrase(0, [2], [8]), phrase(0, [2], [9]), phrase(0, [2], [6]),
                    pair(7, 8, 5), prices(0, 9, 6), translate(1, 2))
        self.assertEqual(told, [0, 2, 0, 0, 1, 2, 2, 7, 9])

    def test_the_same_standing_by_two_ways(self):
        told = last(phrase(1, [1], [7]), phrase(1, [2], [7]), phrase(2, [1, 2], [7]), prices(0, 0, 6),
                    translate(2, 1, 2))
        self.assertEqual(told, [3, 3, 0, 1, 1, 0, 2, 1, 3, 7, 7, 7])


class Refused(unittest.TestCase):
    def test_words(self):
        for word in (0, 100, HUGE):
            with self.subTest(word=word):
                self.assertEqual(last(phrase(0, [1], [7]), translate(word)), [-1])
                self.assertEqual(last(phrase(0, [1], [7]), translate(1, 1, 1, 1, word)), [-1])

    def test_words_1_and_99(self):
        told = last(phrase(0, [1], [99]), phrase(0, [99], [1]), prices(0, 1, 0), translate(1, 99))
        self.assertEqual(told, [0, 2, 0, 0, 1, 1, 2, 99, 1])

    def test_no_way(self):
        self.assertEqual(ask(translate(1)), [[-6]])
        self.assertEqual(last(phrase(0, [1], [7]), translate(1, 99)), [-6])
        self.assertEqual(last(phrase(0, [1, 2], [7]), phrase(0, [2, 1], [8]), translate(1, 2, 1)), [-6])

    def test_refused_leaves_all_as_it_was(self):
        for call, answer in ((translate(0), -1), (translate(2), -6), (translate(1, 1, 1, 1, 1, 1), -1)):
            told = ask(phrase(2, [1], [7]), pair(0, 7, 5), call, translate(1),
                       pair(1, 1, 1), phrase(0, [1], [1]), gone(0))
            self.assertEqual(told[2:], [[answer], [7, 1, 0, 0, 1, 7], [2], [1], [1]])

    def test_answered_leaves_all_as_it_was(self):
        told = ask(phrase(2, [1], [7]), pair(0, 7, 5), translate(1, 1), translate(1, 1),
                   pair(1, 1, 1), phrase(0, [2], [1]), gone(0))
        way = [9, 2, 0, 0, 1, 0, 2, 7, 7]
        self.assertEqual(told[2:], [way, way, [2], [1], [1]])


if __name__ == "__main__":
    unittest.main()
