"""Promise 2, cost."""

import unittest

from tests.helper import ask, cost, force, gone, last, pair, phrase, phrases, prices, some, translate

HUGE = 4294967295
ONE = phrase(3, [1], [7])
TWO = phrase(4, [2], [8, 9])


def steps_and_rest(way):
    """Of a way as it is answered: its steps, and what cost answers of it."""
    end = 2 + 2 * way[1]
    return list(zip(way[2:end:2], way[3:end:2])), [way[0]] + way[end:]


class Costs(unittest.TestCase):
    def test_phrases(self):
        told = last(ONE, TWO, cost([1, 2], (0, 0), (1, 1)))
        self.assertEqual(told, [7, 3, 7, 8, 9])

    def test_jumps(self):
        self.assertEqual(last(ONE, TWO, cost([1, 2], (1, 1), (0, 0))), [10, 3, 8, 9, 7])
        self.assertEqual(last(ONE, TWO, prices(0, 10, 6), cost([1, 2], (1, 1), (0, 0))), [37, 3, 8, 9, 7])

    def test_width_is_counted_from_where_the_step_before_ended(self):
        row = [phrase(0, [1, 2], [7]), phrase(0, [3, 4], [8]), prices(0, 10, 6)]
        self.assertEqual(last(*row, cost([1, 2, 3, 4], (0, 0), (2, 1))), [0, 2, 7, 8])
        self.assertEqual(last(*row, cost([1, 2, 3, 4], (2, 1), (0, 0))), [60, 2, 8, 7])

    def test_words_behind_one_another_and_the_end(self):
        row = [ONE, TWO, prices(100, 0, 6), pair(0, 7, 1), pair(7, 8, 2), pair(9, 0, 5), pair(9, 7, 6)]
        self.assertEqual(last(*row, cost([1, 2], (0, 0), (1, 1))), [115, 3, 7, 8, 9])
        self.assertEqual(last(*row, cost([1, 2], (1, 1), (0, 0))), [313, 3, 8, 9, 7])

    def test_phrases_without_words(self):
        row = [ONE, phrase(2, [2], []), prices(50, 0, 6), pair(7, 7, 1), pair(0, 0, 20)]
        self.assertEqual(last(*row, cost([1, 2, 1], (0, 0), (1, 1), (2, 0))), [109, 2, 7, 7])
        self.assertEqual(last(*row, cost([2, 2], (0, 1), (1, 1))), [24, 0])
        self.assertEqual(last(*row, cost([2], (0, 1))), [22, 0])

    def test_a_dearer_way_than_the_cheapest(self):
        row = [ONE, phrase(30, [1], [7]), phrase(5, [1, 1], [8]), prices(0, 2, 6)]
        told = ask(*row, translate(1, 1), cost([1, 1], (0, 2)), cost([1, 1], (0, 0), (1, 0)),
                   cost([1, 1], (0, 1), (1, 1)), cost([1, 1], (1, 1), (0, 0)))
        self.assertEqual(told[4:], [[5, 1, 0, 2, 1, 8], [5, 1, 8], [6, 2, 7, 7], [60, 2, 7, 7], [39, 2, 7, 7]])

    def test_the_ways_that_are_answered(self):
        row = [ONE, TWO, phrase(9, [1, 2], [8]), phrase(1, [2], []), phrase(2, [1, 1], [7, 8]),
               prices(6, 1, 6), pair(0, 8, 30), pair(8, 7, 2), pair(7, 0, 11), pair(9, 9, 0)]
        for sentence in ([1], [2, 1], [1, 2], [1, 1, 2], [1, 2, 1], [2, 2, 1]):
            told = last(*row, some(5, *sentence))
            ways = [last(*row, translate(*sentence)), last(*row, force(sentence, [7] * sentence.count(1)))]
            rest = told[1:]
            while rest:
                end = 2 + 2 * rest[1]
                end += 1 + rest[end]
                ways.append(rest[:end])
                rest = rest[end:]
            self.assertEqual(len(ways), 2 + told[0])
            for way in ways:
                steps, answer = steps_and_rest(way)
                self.assertEqual(last(*row, cost(sentence, *steps)), answer)

    def test_it_is_the_machine_as_it_is_then(self):
        told = ask(ONE, cost([1], (0, 0)), pair(0, 7, 5), cost([1], (0, 0)), prices(1, 0, 0), cost([1], (0, 0)),
                   pair(0, 7, 1000), cost([1], (0, 0)), gone(0), cost([1], (0, 0)))
        self.assertEqual(told[1::2], [[3, 1, 7], [8, 1, 7], [9, 1, 7], [5, 1, 7], [-6]])


class Edges(unittest.TestCase):
    def test_no_steps(self):
        self.assertEqual(ask(cost([])), [[0, 0]])
        self.assertEqual(last(ONE, prices(8, 1, 6), cost([])), [8, 0])
        self.assertEqual(last(ONE, prices(8, 1, 6), pair(0, 0, 3), cost([])), [3, 0])
        self.assertEqual(last(ONE, cost([1])), [-6])

    def test_steps_through_a_sentence_without_words(self):
        self.assertEqual(last(ONE, cost([], (0, 0))), [-6])

    def test_five_steps_and_six(self):
        five = [(place, 0) for place in range(5)]
        self.assertEqual(last(ONE, cost([1] * 5, *five)), [15, 5, 7, 7, 7, 7, 7])
        self.assertEqual(last(ONE, cost([1] * 4, *five)), [-6])
        self.assertEqual(last(ONE, cost([1] * 5, *five, (4, 0))), [-1])
        self.assertEqual(last(ONE, cost([1], *five, (5, 0))), [-1])
        self.assertEqual(last(ONE, cost([], *five, (5, 0), (6, 0))), [-1])

    def test_five_words_and_six(self):
        three = phrase(1, [1, 1, 1], [7])
        self.assertEqual(last(three, ONE, cost([1] * 5, (2, 0), (0, 1), (1, 1))), [14, 3, 7, 7, 7])
        self.assertEqual(last(three, cost([1] * 6, (0, 0), (3, 0))), [-1])
        self.assertEqual(last(three, cost([1] * 8)), [-1])

    def test_words(self):
        row = [phrase(0, [1], [7]), phrase(0, [99], [8])]
        self.assertEqual(last(*row, cost([1, 99], (0, 0), (1, 1))), [0, 2, 7, 8])
        for word in (0, 100, HUGE):
            with self.subTest(word=word):
                self.assertEqual(last(*row, cost([word], (0, 0))), [-1])
                self.assertEqual(last(*row, cost([1, word], (0, 0))), [-1])
                self.assertEqual(last(*row, cost([word, 1], (1, 0))), [-1])

    def test_a_first_jump_as_wide_as_wide_and_one_wider(self):
        row = [phrase(0, [1], [7]), phrase(0, [2, 2], [8])]
        self.assertEqual(last(*row, prices(0, 1, 3), cost([1, 2, 2], (1, 1), (0, 0))), [4, 2, 8, 7])
        self.assertEqual(last(*row, prices(0, 1, 2), cost([1, 2, 2], (1, 1), (0, 0))), [-6])
        self.assertEqual(last(ONE, prices(0, 1, 2), cost([1] * 3, (2, 0), (1, 0), (0, 0))), [15, 3, 7, 7, 7])
        self.assertEqual(last(ONE, prices(0, 1, 1), cost([1] * 3, (2, 0), (1, 0), (0, 0))), [-6])

    def test_a_jump_back_as_wide_as_wide_and_one_wider(self):
        way = cost([1] * 5, (1, 0), (2, 0), (3, 0), (0, 0), (4, 0))
        self.assertEqual(last(ONE, prices(0, 1, 4), way), [23, 5, 7, 7, 7, 7, 7])
        self.assertEqual(last(ONE, prices(0, 1, 3), way), [-6])
        self.assertEqual(last(ONE, prices(0, 0, 3), way), [-6])

    def test_a_jump_ahead_as_wide_as_wide_and_one_wider(self):
        row = [ONE, phrase(0, [1, 1], [8])]
        way = cost([1] * 5, (0, 0), (3, 1), (2, 0), (1, 0))
        self.assertEqual(last(*row, prices(0, 1, 3), way), [16, 4, 7, 8, 7, 7])
        self.assertEqual(last(*row, prices(0, 1, 2), way), [-6])
        way = cost([1] * 3, (0, 0), (2, 0), (1, 0))
        self.assertEqual(last(*row, prices(0, 1, 2), way), [12, 3, 7, 7, 7])
        self.assertEqual(last(*row, prices(0, 1, 1), way), [-6])

    def test_the_widest_jump(self):
        way = cost([1] * 5, (4, 0), (0, 0), (1, 0), (2, 0), (3, 0))
        self.assertEqual(last(ONE, prices(0, 1, 5), way), [24, 5, 7, 7, 7, 7, 7])
        self.assertEqual(last(ONE, prices(0, 1, 4), way), [-6])

    def test_wide_0_goes_straight_on(self):
        self.assertEqual(last(ONE, TWO, prices(0, 9, 0), cost([1, 2], (0, 0), (1, 1))), [7, 3, 7, 8, 9])
        self.assertEqual(last(ONE, TWO, prices(0, 0, 0), cost([1, 2], (1, 1), (0, 0))), [-6])

    def test_a_last_step_that_ends_at_the_end_and_one_beyond_it(self):
        row = [phrase(1, [1], [7]), phrase(1, [1, 1], [8]), phrase(1, [1, 1, 1], [9])]
        self.assertEqual(last(*row, cost([1, 1, 1], (0, 0), (1, 1))), [2, 2, 7, 8])
        self.assertEqual(last(*row, cost([1, 1, 1], (0, 0), (1, 2))), [-6])
        self.assertEqual(last(*row, cost([1, 1, 1], (0, 1), (2, 1))), [-6])
        self.assertEqual(last(*row, cost([1, 1, 1], (0, 2))), [1, 1, 9])
        self.assertEqual(last(*row, cost([1, 1], (0, 2))), [-6])

    def test_a_step_from_a_word_that_the_sentence_has_not(self):
        for start in (1, 2, 5, 6, 7, 31, 32, 64, 100, HUGE):
            with self.subTest(start=start):
                self.assertEqual(last(ONE, cost([1], (start, 0))), [-6])
                self.assertEqual(last(ONE, cost([1], (0, 0), (start, 0))), [-6])
                self.assertEqual(last(ONE, cost([], (start, 0))), [-6])
        self.assertEqual(last(ONE, cost([1] * 5, (0, 0), (1, 0), (2, 0), (3, 0), (HUGE, 0))), [-6])


class NoSuchWay(unittest.TestCase):
    def test_a_phrase_that_was_never_there(self):
        self.assertEqual(ask(cost([1], (0, 0))), [[-6]])
        self.assertEqual(last(ONE, cost([1], (0, 1))), [-6])
        self.assertEqual(last(ONE, cost([1], (0, HUGE))), [-6])
        self.assertEqual(last(ONE, cost([1], (HUGE, HUGE))), [-6])
        self.assertEqual(last(ONE, cost([1, 1], (0, 0), (1, 1))), [-6])

    def test_a_phrase_that_has_gone(self):
        told = ask(ONE, ONE, gone(0), cost([1], (0, 0)), cost([1], (0, 1)), ONE, cost([1], (0, 0)), cost([1], (0, 2)))
        self.assertEqual(told[3:], [[-6], [3, 1, 7], [2], [-6], [3, 1, 7]])

    def test_a_source_that_is_not_there(self):
        row = [ONE, TWO, phrase(0, [1, 2], [7])]
        self.assertEqual(last(*row, cost([1], (0, 1))), [-6])
        self.assertEqual(last(*row, cost([1, 2], (0, 1), (1, 0))), [-6])
        self.assertEqual(last(*row, cost([2, 1], (0, 2))), [-6])
        self.assertEqual(last(*row, cost([1, 1], (0, 2))), [-6])
        self.assertEqual(last(*row, cost([3], (0, 0))), [-6])

    def test_a_word_taken_twice(self):
        row = [ONE, phrase(0, [1, 1], [8])]
        self.assertEqual(last(*row, cost([1], (0, 0), (0, 0))), [-6])
        self.assertEqual(last(*row, cost([1, 1], (0, 0), (1, 0), (0, 0))), [-6])
        self.assertEqual(last(*row, cost([1, 1, 1], (0, 1), (1, 1))), [-6])
        self.assertEqual(last(*row, cost([1, 1, 1], (1, 1), (0, 1))), [-6])
        self.assertEqual(last(*row, cost([1, 1], (0, 1), (1, 0))), [-6])
        self.assertEqual(last(*row, cost([1, 1], (0, 0), (0, 1))), [-6])

    def test_a_word_left_over(self):
        row = [ONE, TWO, phrase(0, [1, 1], [8])]
        self.assertEqual(last(*row, cost([1, 1], (0, 0))), [-6])
        self.assertEqual(last(*row, cost([1, 1], (1, 0))), [-6])
        self.assertEqual(last(*row, cost([1, 2, 1], (0, 0), (2, 0))), [-6])
        self.assertEqual(last(*row, cost([1, 1, 1], (0, 2))), [-6])
        self.assertEqual(last(*row, cost([1, 1, 3], (0, 2))), [-6])

    def test_half_a_step(self):
        self.assertEqual(last(ONE, [6, 1, 1, 1, 0]), [-6])
        self.assertEqual(last(ONE, [6, 1, 1, 3, 0, 0, 0]), [-6])

    def test_wrong_and_without_a_way_is_wrong(self):
        self.assertEqual(last(ONE, cost([0], (5, 5))), [-1])
        self.assertEqual(last(ONE, cost([1] * 6, (5, 5))), [-1])
        self.assertEqual(last(ONE, cost([1], *[(HUGE, HUGE)] * 6)), [-1])
        self.assertEqual(last(ONE, cost([1], *[(HUGE, HUGE)] * 5)), [-6])


class AllAsItWas(unittest.TestCase):
    def test_behind_each_answer(self):
        row = [phrase(2, [1], [7]), pair(0, 7, 5), prices(1, 2, 3)]
        seen = [phrases(), translate(1, 1), cost([1], (0, 0)), pair(1, 1, 1), phrase(0, [2], [8])]
        plain = ask(*row, *seen)[3:]
        for call, answer in ((cost([1], (0, 0)), [8, 1, 7]), (cost([1]), [-6]), (cost([1], (0, 1)), [-6]),
                             (cost([0], (0, 0)), [-1]), (cost([1] * 6), [-1]), (cost([1], *[(0, 0)] * 6), [-1])):
            with self.subTest(call=call):
                self.assertEqual(ask(*row, call, *seen)[3:], [answer] + plain)

    def test_read_to_its_end_when_refused(self):
        told = ask(cost([1] * 8, *[(1, 1)] * 7), cost([0], (8, 8)), cost([1], (8, 8)), ONE, cost([1], (0, 0)))
        self.assertEqual(told, [[-1], [-1], [-6], [0], [3, 1, 7]])


if __name__ == "__main__":
    unittest.main()
