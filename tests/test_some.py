"""Promise 2, some."""

import unittest

from tests.helper import ask, flat, gone, last, pair, phrase, phrases, prices, some, translate

HUGE = 4294967295
ONE = phrase(0, [1], [7])
# Phrase n makes 11 + n of the word 1, for 10 - n.
SIX = [phrase(10 - number, [1], [11 + number]) for number in range(6)]


def one_step(paid, number, *words):
    return [paid, 1, 0, number, len(words)] + list(words)


def told(*ways):
    return [len(ways)] + flat(ways)


class Sentences(unittest.TestCase):
    def test_the_cheapest_first(self):
        answer = last(phrase(5, [1], [7]), phrase(3, [1], [8]), phrase(4, [1], [9]), some(5, 1))
        self.assertEqual(answer, told(one_step(3, 1, 8), one_step(4, 2, 9), one_step(5, 0, 7)))

    def test_each_once_by_its_cheapest_way(self):
        answer = last(phrase(5, [1], [7]), phrase(4, [1], [8]), phrase(3, [1], [7]), phrase(6, [1], [8]), some(5, 1))
        self.assertEqual(answer, told(one_step(3, 2, 7), one_step(4, 1, 8)))

    def test_of_as_cheap_ways_by_the_first(self):
        answer = last(phrase(3, [1], [8]), phrase(3, [1], [7]), phrase(3, [1], [7]), phrase(3, [1], [8]), some(5, 1))
        self.assertEqual(answer, told(one_step(3, 0, 8), one_step(3, 1, 7)))

    def test_as_cheap_sentences_in_the_order_of_their_ways(self):
        row = [phrase(2, [1], [9]), phrase(2, [1], [8, 8]), phrase(2, [1], [1]), phrase(1, [1], [50])]
        answer = last(*row, some(5, 1))
        self.assertEqual(answer, told(one_step(1, 3, 50), one_step(2, 0, 9), one_step(2, 1, 8, 8), one_step(2, 2, 1)))

    def test_as_cheap_sentences_by_the_lower_word_first(self):
        answer = last(phrase(0, [2], [1]), phrase(0, [1], [9]), prices(0, 0, 6), some(5, 1, 2))
        self.assertEqual(answer, told([0, 2, 0, 1, 1, 0, 2, 9, 1], [0, 2, 1, 0, 0, 1, 2, 1, 9]))

    def test_as_cheap_sentences_with_fewer_steps_are_not_first(self):
        row = [phrase(1, [1], [7]), phrase(2, [1, 1], [8]), prices(0, 1, 0)]
        answer = last(*row, some(5, 1, 1))
        self.assertEqual(answer, told([2, 2, 0, 0, 1, 0, 2, 7, 7], one_step(2, 1, 8)))

    def test_the_order_is_of_the_whole_cost(self):
        row = [ONE, phrase(20, [1], [8]), pair(7, 0, 30), prices(5, 1, 6)]
        self.assertEqual(last(*row, some(5, 1)), told(one_step(30, 1, 8), one_step(35, 0, 7)))

    def test_what_differs_early_and_ends_alike(self):
        answer = last(phrase(1, [1], [7]), phrase(2, [1], [8]), phrase(0, [2], [9]), prices(0, 1, 0), some(5, 1, 2))
        self.assertEqual(answer, told([1, 2, 0, 0, 1, 2, 2, 7, 9], [2, 2, 0, 1, 1, 2, 2, 8, 9]))

    def test_the_same_words_in_another_order_are_another_sentence(self):
        answer = last(ONE, phrase(0, [2], [8]), prices(0, 10, 6), some(5, 1, 2))
        self.assertEqual(answer, told([0, 2, 0, 0, 1, 1, 2, 7, 8], [30, 2, 1, 1, 0, 0, 2, 8, 7]))

    def test_the_same_sentence_by_another_order_is_told_once(self):
        answer = last(ONE, phrase(0, [2], [7]), prices(0, 0, 6), some(5, 1, 2))
        self.assertEqual(answer, told([0, 2, 0, 0, 1, 1, 2, 7, 7]))

    def test_the_same_sentence_by_another_cut_is_told_once(self):
        row = [phrase(1, [1], [7]), phrase(1, [2], [8, 9]), phrase(1, [1], [7, 8]), phrase(1, [2], [9])]
        ways = ([2, 2, 0, 0, 1, 1, 3, 7, 8, 9], [2, 2, 0, 0, 1, 3, 2, 7, 9], [2, 2, 0, 2, 1, 1, 4, 7, 8, 8, 9])
        self.assertEqual(last(*row, prices(0, 9, 0), some(5, 1, 2)), told(*ways))

    def test_the_same_sentence_by_fewer_steps_is_told_once(self):
        short = [phrase(2, [1], [7]), phrase(2, [2], [8]), prices(0, 9, 0)]
        answer = last(*short, phrase(3, [1, 2], [7, 8]), some(5, 1, 2))
        self.assertEqual(answer, told(one_step(3, 2, 7, 8)))
        answer = last(*short, phrase(4, [1, 2], [7, 8]), some(5, 1, 2))
        self.assertEqual(answer, told([4, 2, 0, 0, 1, 1, 2, 7, 8]))
        answer = last(phrase(4, [1, 2], [7, 8]), *short, some(5, 1, 2))
        self.assertEqual(answer, told(one_step(4, 0, 7, 8)))

    def test_a_dear_beginning_that_ends_nearer(self):
        answer = last(phrase(30, [1], [7]), phrase(0, [3], [8]), phrase(0, [3], [7]), phrase(0, [1], [8]),
                      phrase(0, [2], [9]), prices(900, 10, 6), pair(0, 7, 0), pair(7, 8, 0), pair(8, 9, 0),
                      pair(9, 0, 0), some(1, 1, 2, 3))
        self.assertEqual(answer, told([50, 3, 2, 2, 0, 3, 1, 4, 3, 7, 8, 9]))

    def test_a_dear_beginning_that_takes_more(self):
        answer = last(phrase(9, [1, 1], [7]), phrase(0, [1], [7]), some(5, 1, 1))
        self.assertEqual(answer, told([0, 2, 0, 1, 1, 1, 2, 7, 7], one_step(9, 0, 7)))

    def test_words_side_by_side_are_not_run_together(self):
        answer = last(phrase(0, [1], [1, 11]), phrase(0, [1], [11, 1]), phrase(0, [1], [1, 1, 1]), some(5, 1))
        self.assertEqual(answer, told(one_step(0, 0, 1, 11), one_step(0, 1, 11, 1), one_step(0, 2, 1, 1, 1)))

    def test_a_sentence_without_words_is_one_too(self):
        row = [phrase(5, [1], [7]), phrase(1, [1], []), phrase(2, [1], [])]
        self.assertEqual(last(*row, some(5, 1)), told([1, 1, 0, 1, 0], one_step(5, 0, 7)))
        self.assertEqual(last(*row, pair(0, 0, 9), some(5, 1)), told(one_step(5, 0, 7), [10, 1, 0, 1, 0]))

    def test_held_to_wide(self):
        row = [ONE, phrase(0, [2], [8])]
        self.assertEqual(last(*row, prices(0, 0, 1), some(5, 1, 2)), told([0, 2, 0, 0, 1, 1, 2, 7, 8]))
        self.assertEqual(last(*row, prices(0, 0, 2), some(5, 1, 2))[0], 2)

    def test_the_first_is_what_translate_answers(self):
        row = [*SIX, pair(0, 16, 30), pair(15, 15, 9), pair(14, 0, 4), prices(1, 2, 6)]
        for sentence in ([], [1], [1, 1], [1, 1, 1]):
            self.assertEqual(last(*row, some(1, *sentence)), told(last(*row, translate(*sentence))))


class HowMany(unittest.TestCase):
    WAYS = [one_step(5, 5, 16), one_step(6, 4, 15), one_step(7, 3, 14), one_step(8, 2, 13), one_step(9, 1, 12)]

    def test_fewer_than_there_are(self):
        for much in (1, 2, 3, 4, 5):
            self.assertEqual(last(*SIX, some(much, 1)), told(*self.WAYS[:much]))

    def test_just_as_many_as_there_are(self):
        self.assertEqual(last(*SIX, gone(0), some(5, 1)), told(*self.WAYS))
        self.assertEqual(last(ONE, some(1, 1)), told(one_step(0, 0, 7)))

    def test_more_than_there_are(self):
        self.assertEqual(last(*SIX, gone(0), gone(1), some(5, 1)), told(*self.WAYS[:4]))
        self.assertEqual(last(ONE, some(2, 1)), told(one_step(0, 0, 7)))
        self.assertEqual(last(ONE, ONE, some(5, 1, 1, 1)), told([0, 3, 0, 0, 1, 0, 2, 0, 3, 7, 7, 7]))

    def test_none(self):
        self.assertEqual(ask(some(5, 1), some(1, 1, 2, 3)), [[0], [0]])
        self.assertEqual(last(ONE, some(5, 2)), [0])
        self.assertEqual(last(ONE, some(1, 1, 2)), [0])
        self.assertEqual(last(phrase(0, [1, 1], [7]), some(5, 1, 1, 1)), [0])

    def test_much(self):
        self.assertEqual(last(ONE, some(0, 1)), [-1])
        self.assertEqual(last(ONE, some(1, 1)), told(one_step(0, 0, 7)))
        self.assertEqual(last(ONE, some(5, 1)), told(one_step(0, 0, 7)))
        self.assertEqual(last(ONE, some(6, 1)), [-1])
        self.assertEqual(last(ONE, some(HUGE, 1)), [-1])
        self.assertEqual(ask(some(0), some(6, 9)), [[-1], [-1]])


class Edges(unittest.TestCase):
    def test_a_sentence_without_words(self):
        self.assertEqual(ask(some(1), some(5)), [[1, 0, 0, 0], [1, 0, 0, 0]])
        self.assertEqual(last(phrase(0, [1], []), prices(8, 1, 6), some(5)), [1, 8, 0, 0])
        self.assertEqual(last(prices(8, 1, 6), pair(0, 0, 3), some(5)), [1, 3, 0, 0])

    def test_three_words_and_four(self):
        self.assertEqual(last(ONE, some(5, 1, 1, 1)), told([0, 3, 0, 0, 1, 0, 2, 0, 3, 7, 7, 7]))
        self.assertEqual(last(ONE, some(5, 1, 1, 1, 1)), [-1])
        self.assertEqual(last(ONE, some(5, 1, 1, 1, 1, 1, 1)), [-1])

    def test_words(self):
        row = [phrase(0, [1], [99]), phrase(0, [99], [1]), prices(0, 0, 0)]
        self.assertEqual(last(*row, some(5, 1, 99)), told([0, 2, 0, 0, 1, 1, 2, 99, 1]))
        for word in (0, 100, HUGE):
            with self.subTest(word=word):
                self.assertEqual(last(*row, some(5, word)), [-1])
                self.assertEqual(last(*row, some(5, word, 1, 1)), [-1])
                self.assertEqual(last(*row, some(5, 1, 1, word)), [-1])


class AllAsItWas(unittest.TestCase):
    def test_behind_each_answer(self):
        row = [phrase(2, [1], [7]), pair(0, 7, 5), prices(1, 2, 3)]
        seen = [phrases(), translate(1, 1), some(2, 1), pair(1, 1, 1), phrase(0, [2], [8])]
        plain = ask(*row, *seen)[3:]
        for call, answer in ((some(1, 1), told(one_step(8, 0, 7))), (some(1, 2), [0]), (some(0, 1), [-1]),
                             (some(6, 1), [-1]), (some(1, 0), [-1]), (some(1, 1, 1, 1, 1), [-1])):
            with self.subTest(call=call):
                self.assertEqual(ask(*row, call, *seen)[3:], [answer] + plain)

    def test_read_to_its_end_when_refused(self):
        answers = ask(some(8, 8, 8, 8, 8, 8, 8), some(0, 8), some(1, 0, 8), ONE, some(1, 1))
        self.assertEqual(answers, [[-1], [-1], [-1], [0], told(one_step(0, 0, 7))])


if __name__ == "__main__":
    unittest.main()
