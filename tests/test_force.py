"""Promise 2, force."""

import unittest

from tests.helper import ask, flat, force, gone, last, pair, phrase, phrases, prices, translate

HUGE = 4294967295
ONE = phrase(0, [1], [7])


class Forced(unittest.TestCase):
    def test_answered_as_a_way(self):
        told = last(phrase(5, [1], [7]), phrase(2, [2], [8, 9]), force([1, 2], [7, 8, 9]))
        self.assertEqual(told, [7, 2, 0, 0, 1, 1, 3, 7, 8, 9])

    def test_the_cheapest_of_several(self):
        told = last(phrase(5, [1], [7]), phrase(3, [1], [7]), phrase(4, [1], [7]), force([1], [7]))
        self.assertEqual(told, [3, 1, 0, 1, 1, 7])

    def test_not_what_translate_answers(self):
        row = [phrase(1, [1], [8]), phrase(5, [1], [7]), phrase(6, [1], [7])]
        told = ask(*row, translate(1), force([1], [7]), force([1], [8]))
        self.assertEqual(told[3:], [[1, 1, 0, 0, 1, 8], [5, 1, 0, 1, 1, 7], [1, 1, 0, 0, 1, 8]])

    def test_the_order_that_says_it(self):
        row = [ONE, phrase(0, [2], [8]), prices(0, 10, 6)]
        self.assertEqual(last(*row, force([1, 2], [7, 8])), [0, 2, 0, 0, 1, 1, 2, 7, 8])
        self.assertEqual(last(*row, force([1, 2], [8, 7])), [30, 2, 1, 1, 0, 0, 2, 8, 7])

    def test_held_to_wide(self):
        row = [ONE, phrase(0, [2], [8])]
        told = last(*row, prices(0, 10, 2), force([1, 2], [8, 7]))
        self.assertEqual(told, [30, 2, 1, 1, 0, 0, 2, 8, 7])
        self.assertEqual(last(*row, prices(0, 10, 1), force([1, 2], [8, 7])), [-6])
        self.assertEqual(last(*row, prices(0, 0, 1), force([1, 2], [8, 7])), [-6])

    def test_words_and_the_end_are_paid(self):
        told = last(phrase(1, [1], [7, 8]), prices(100, 1, 6), pair(0, 7, 20), pair(8, 0, 3), force([1], [7, 8]))
        self.assertEqual(told, [124, 1, 0, 0, 2, 7, 8])

    def test_a_dear_beginning_where_the_cheap_one_says_too_little(self):
        told = last(ONE, phrase(10, [1], [7, 7]), phrase(0, [2], [7]), force([1, 2], [7, 7, 7]))
        self.assertEqual(told, [10, 2, 0, 1, 1, 2, 3, 7, 7, 7])

    def test_a_dear_beginning_where_the_cheap_one_says_too_much(self):
        told = last(phrase(0, [1], [7, 7]), phrase(10, [1], [7]), phrase(0, [2], [7]), force([1, 2], [7, 7]))
        self.assertEqual(told, [10, 2, 0, 1, 1, 2, 2, 7, 7])

    def test_a_dear_beginning_that_ends_nearer(self):
        told = last(phrase(30, [1], [7]), phrase(0, [3], [8]), phrase(0, [3], [7]), phrase(0, [1], [8]),
                    phrase(0, [2], [9]), prices(0, 10, 6), force([1, 2, 3], [7, 8, 9]))
        self.assertEqual(told, [50, 3, 2, 2, 0, 3, 1, 4, 3, 7, 8, 9])

    def test_a_dear_beginning_that_takes_more(self):
        told = last(phrase(5, [1, 1], [7]), phrase(0, [1], [7]), force([1, 1], [7]))
        self.assertEqual(told, [5, 1, 0, 0, 1, 7])

    def test_phrases_without_words(self):
        row = [ONE, phrase(3, [2], []), phrase(0, [3], [8]), prices(0, 10, 6), pair(7, 8, 5)]
        self.assertEqual(last(*row, force([1, 2, 3], [7, 8])), [8, 3, 0, 0, 1, 1, 2, 2, 2, 7, 8])
        self.assertEqual(last(*row, force([2, 2], [])), [6, 2, 0, 1, 1, 1, 0])
        self.assertEqual(last(*row, pair(0, 0, 40), force([2, 2], [])), [46, 2, 0, 1, 1, 1, 0])
        self.assertEqual(last(*row, force([2, 1], [7])), [3, 2, 0, 1, 1, 0, 1, 7])


class CutInMoreThanOneWay(unittest.TestCase):
    def test_the_cheaper_cut(self):
        row = [phrase(4, [1], [7]), phrase(4, [1], [8, 9]), phrase(1, [2], [9]), phrase(4, [1], [7, 8])]
        told = last(*row, phrase(1, [2], [8, 9]), force([1, 2], [7, 8, 9]))
        self.assertEqual(told, [5, 2, 0, 0, 1, 4, 3, 7, 8, 9])
        told = last(*row, phrase(2, [2], [8, 9]), force([1, 2], [7, 8, 9]))
        self.assertEqual(told, [5, 2, 0, 3, 1, 2, 3, 7, 8, 9])

    def test_by_as_cheap_cuts_the_lower_number(self):
        short, long = phrase(2, [1], [7]), phrase(2, [1], [7, 7])
        way = [4, 2, 0, 0, 1, 1, 3, 7, 7, 7]
        self.assertEqual(last(short, long, force([1, 1], [7, 7, 7])), way)
        self.assertEqual(last(long, short, force([1, 1], [7, 7, 7])), way)

    def test_by_steps_of_several_lengths(self):
        row = [phrase(2, [1], [7]), phrase(2, [1], [8]), phrase(5, [1, 1], [7, 8])]
        self.assertEqual(last(*row, force([1, 1], [7, 8])), [4, 2, 0, 0, 1, 1, 2, 7, 8])
        row[2] = phrase(3, [1, 1], [7, 8])
        self.assertEqual(last(*row, force([1, 1], [7, 8])), [3, 1, 0, 2, 2, 7, 8])

    def test_with_parts_without_words(self):
        told = last(phrase(9, [1], []), phrase(1, [1], [7]), phrase(5, [1], [7, 7]), force([1, 1], [7, 7]))
        self.assertEqual(told, [2, 2, 0, 1, 1, 1, 2, 7, 7])
        told = last(phrase(0, [1], []), phrase(5, [1], [7]), phrase(5, [1], [7, 7]), force([1, 1], [7, 7]))
        self.assertEqual(told, [5, 2, 0, 0, 1, 2, 2, 7, 7])


class FirstOfAsCheapOnes(unittest.TestCase):
    def test_the_lower_phrase_number(self):
        row = [phrase(2, [1], [8]), phrase(2, [1], [7]), phrase(2, [1], [7]), phrase(2, [1], [7])]
        self.assertEqual(last(*row, force([1], [7])), [2, 1, 0, 1, 1, 7])
        self.assertEqual(last(*row, gone(1), force([1], [7])), [2, 1, 0, 2, 1, 7])

    def test_the_lower_word_goes_before_the_lower_phrase(self):
        told = last(phrase(0, [2], [7]), phrase(0, [1], [7]), prices(0, 0, 6), force([1, 2], [7, 7]))
        self.assertEqual(told, [0, 2, 0, 1, 1, 0, 2, 7, 7])

    def test_a_later_step_decides_when_the_first_are_the_same(self):
        told = last(ONE, phrase(0, [2], [6]), phrase(0, [2], [8]), phrase(0, [2], [8]), force([1, 2], [7, 8]))
        self.assertEqual(told, [0, 2, 0, 0, 1, 2, 2, 7, 8])

    def test_fewer_steps_are_no_reason(self):
        row = [phrase(1, [1], [7]), phrase(2, [1, 1], [7, 7])]
        self.assertEqual(last(*row, force([1, 1], [7, 7])), [2, 2, 0, 0, 1, 0, 2, 7, 7])
        self.assertEqual(last(*reversed(row), force([1, 1], [7, 7])), [2, 1, 0, 0, 2, 7, 7])


class Edges(unittest.TestCase):
    def test_a_sentence_without_words(self):
        self.assertEqual(ask(force([], []), force([], [7])), [[0, 0, 0], [-6]])
        self.assertEqual(last(ONE, prices(8, 1, 6), force([], [])), [8, 0, 0])
        self.assertEqual(last(phrase(0, [1], []), prices(8, 1, 6), pair(0, 0, 3), force([], [])), [3, 0, 0])

    def test_five_words_and_six(self):
        way = [0, 5, 0, 0, 1, 0, 2, 0, 3, 0, 4, 0, 5] + [7] * 5
        self.assertEqual(last(ONE, force([1] * 5, [7] * 5)), way)
        self.assertEqual(last(ONE, force([1] * 6, [7] * 6)), [-1])
        self.assertEqual(last(phrase(0, [1, 1, 1], [7]), force([1] * 6, [7, 7])), [-1])
        self.assertEqual(last(ONE, force([1] * 8, [])), [-1])

    def test_said_none_15_and_16(self):
        three = phrase(1, [1], [7, 8, 9])
        way = [5, 5, 0, 0, 1, 0, 2, 0, 3, 0, 4, 0, 15] + [7, 8, 9] * 5
        self.assertEqual(last(three, force([1] * 5, [7, 8, 9] * 5)), way)
        self.assertEqual(last(three, force([1] * 5, [7, 8, 9] * 4 + [7, 8, 8])), [-6])
        self.assertEqual(last(three, force([1] * 5, [7, 8, 9] * 5 + [7])), [-1])
        self.assertEqual(last(three, force([], [7] * 20)), [-1])
        self.assertEqual(last(three, force([1], [])), [-6])
        self.assertEqual(last(phrase(1, [1], []), force([1], [])), [1, 1, 0, 0, 0])

    def test_words_1_and_99_in_either(self):
        row = [phrase(0, [1], [99]), phrase(0, [99], [1])]
        self.assertEqual(last(*row, force([1, 99], [99, 1])), [0, 2, 0, 0, 1, 1, 2, 99, 1])

    def test_words_0_and_100_in_either(self):
        for word in (0, 100, HUGE):
            with self.subTest(word=word):
                for sentence, said in (([word], [7]), ([1, word], [7]), ([word, 1], [7]),
                                       ([1], [word]), ([1], [7, word]), ([1], [word, 7]), ([], [word])):
                    self.assertEqual(last(ONE, force(sentence, said)), [-1])


class NoWay(unittest.TestCase):
    def test_the_sentence_has_ways_but_none_says_this(self):
        row = [ONE, phrase(0, [2], [8, 9])]
        for said in ([], [7], [7, 8], [8, 9], [7, 9, 8], [8, 7, 9], [7, 8, 9, 7], [6, 7, 8, 9], [1, 2]):
            with self.subTest(said=said):
                self.assertEqual(ask(*row, translate(1, 2), force([1, 2], said))[2:],
                                 [[0, 2, 0, 0, 1, 1, 3, 7, 8, 9], [-6]])

    def test_the_sentence_has_none(self):
        self.assertEqual(ask(force([1], [7]), force([1], [])), [[-6], [-6]])
        self.assertEqual(last(ONE, force([1, 2], [7])), [-6])
        self.assertEqual(last(ONE, gone(0), force([1], [7])), [-6])

    def test_no_word_is_taken_twice_to_say_it(self):
        self.assertEqual(last(ONE, force([1], [7, 7])), [-6])
        self.assertEqual(last(ONE, force([1, 1], [7])), [-6])

    def test_wrong_and_without_a_way_is_wrong(self):
        self.assertEqual(ask(force([0], [7]), force([1], [100])), [[-1], [-1]])


class AllAsItWas(unittest.TestCase):
    def test_behind_each_answer(self):
        row = [phrase(2, [1], [7]), pair(0, 7, 5), prices(1, 2, 3)]
        seen = [phrases(), translate(1, 1), force([1], [7]), pair(1, 1, 1), phrase(0, [2], [8])]
        plain = ask(*row, *seen)[3:]
        for call, answer in ((force([1], [7]), [8, 1, 0, 0, 1, 7]), (force([1], [8]), [-6]), (force([2], [7]), [-6]),
                             (force([0], [7]), [-1]), (force([1], [0]), [-1]), (force([1] * 6, []), [-1])):
            with self.subTest(call=call):
                self.assertEqual(ask(*row, call, *seen)[3:], [answer] + plain)

    def test_read_to_its_end_when_refused(self):
        told = ask(force([1] * 8, [1] * 20), force([0], [8]), force([], [1] * 20), ONE, force([1], [7]))
        self.assertEqual(told, [[-1], [-1], [-1], [0], [0, 1, 0, 0, 1, 7]])

    def test_two_of_the_same_are_answered_the_same(self):
        calls = [ONE, force([1, 1], [7, 7]), force([1, 1], [7, 7])]
        way = [0, 2, 0, 0, 1, 0, 2, 7, 7]
        self.assertEqual(ask(*calls)[1:], [way, way])
        self.assertEqual(flat(ask(*calls)), flat(ask(*calls)))


if __name__ == "__main__":
    unittest.main()
