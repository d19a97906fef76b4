"""The interface: whole lists of calls, checked against a plain walk through all ways."""

import copy
import random
import unittest

from phraseways.desk import answers
from tests.helper import ask, expected, flat, gone, pair, phrase, prices, translate


class Form(unittest.TestCase):
    def test_each_answer_has_its_count_ahead(self):
        calls = flat([phrase(3, [1], [7, 8]), translate(1), translate(2), gone(0)])
        self.assertEqual(answers(calls), [1, 0, 7, 3, 1, 0, 0, 2, 7, 8, 1, -6, 1, 0])

    def test_refused_calls_are_read_to_their_end(self):
        calls = [phrase(1, [], []), phrase(1, [4] * 6, [4] * 6), gone(4), pair(4, 100, 4),
                 prices(4, 4, 7), translate(4, 4, 4, 4, 4, 4, 4, 4), phrase(1, [1], [])]
        self.assertEqual(ask(*calls), [[-1], [-1], [-2], [-1], [-1], [-1], [0]])

    def test_gives_whole_numbers(self):
        told = answers(flat([phrase(3, [1], [7]), prices(0, 1, 6), translate(1), gone(0), gone(0)]))
        self.assertEqual([number for number in told if type(number) is not int], [])


MIXED = flat([phrase(1, [1], [7, 8]), phrase(2, [2, 3], []), pair(0, 7, 4), pair(8, 0, 1000),
              prices(3, 2, 4), translate(1, 2, 3), gone(0), translate(1), phrase(1, [0], [0])])


class NothingKept(unittest.TestCase):
    def test_what_is_handed_in_is_as_it_was(self):
        calls = list(MIXED)
        answers(calls)
        self.assertEqual(calls, MIXED)

    def test_it_is_not_changed_for_a_while_either(self):
        class Watched(list):
            def refuse(self, *rest):
                raise AssertionError("the list handed in was changed")
            append = extend = insert = pop = remove = clear = reverse = sort = refuse
            __setitem__ = __delitem__ = __iadd__ = __imul__ = refuse

        self.assertEqual(answers(Watched(MIXED)), answers(MIXED))

    def test_the_same_list_twice_is_answered_the_same(self):
        first = answers(MIXED)
        kept = copy.copy(first)
        first.append(5)
        self.assertEqual(answers(MIXED), kept)

    def test_a_new_machine_each_time(self):
        answers(flat([phrase(1, [1], [7]), pair(0, 0, 9), prices(5, 5, 0)]))
        self.assertEqual(ask(translate(1), translate(), pair(1, 1, 1), phrase(1, [1], [1])),
                         [[-6], [0, 0, 0], [1], [0]])


class FullLists(unittest.TestCase):
    def check(self, calls):
        self.assertEqual(len(calls), 30)
        self.assertEqual(ask(*calls), expected(calls))

    def test_six_phrases_of_one_word_that_fit_everywhere(self):
        calls = [phrase(cost, [1], target) for cost, target in
                 ((5, [7, 8, 9]), (3, [8]), (3, [9, 7]), (9, []), (3, [7]), (4, [6]))]
        calls += [pair(0, 7, 30), pair(8, 8, 20), pair(7, 7, 9), pair(9, 9, 9), pair(7, 0, 25),
                  pair(6, 6, 8), pair(6, 0, 15), pair(8, 7, 1), pair(7, 9, 0), pair(9, 6, 2),
                  pair(0, 0, 999), pair(8, 9, 3)]
        for price in ((0, 1, 6), (4, 0, 6), (4, 999, 6), (0, 0, 6), (999, 7, 5), (6, 0, 3)):
            calls += [prices(*price), translate(1, 1, 1, 1, 1)]
        self.check(calls)

    def test_phrases_of_several_lengths_that_fit_everywhere(self):
        calls = [phrase(cost, [1] * length, target) for cost, length, target in
                 ((2, 1, [7]), (4, 2, [7, 8]), (6, 3, [9, 9, 9]), (2, 1, []), (4, 2, [8]), (6, 3, [7]))]
        calls += [pair(0, 7, 9), pair(7, 0, 9), pair(7, 7, 9), pair(8, 7, 1), pair(9, 9, 0), pair(9, 0, 2),
                  pair(0, 0, 30), pair(0, 8, 2), pair(0, 9, 3), pair(8, 8, 4), pair(8, 0, 4), pair(7, 8, 1)]
        for price in ((0, 0, 6), (1, 1, 6), (3, 0, 2), (0, 0, 0), (5, 2, 1), (2, 0, 5)):
            calls += [prices(*price), translate(1, 1, 1, 1, 1)]
        self.check(calls)

    def test_all_ways_cost_the_same(self):
        calls = [phrase(0, [1], [7]) for number in range(6)]
        calls += [pair(number, 50, 3) for number in range(17)] + [prices(0, 0, 6)]
        calls += [translate(1, 1, 1, 1, 1)] * 6
        told = ask(*calls)
        self.assertEqual(len(told), 30)
        way = [0, 5, 0, 0, 1, 0, 2, 0, 3, 0, 4, 0, 5, 7, 7, 7, 7, 7]
        self.assertEqual(told[24:], [way] * 6)


class ManyLists(unittest.TestCase):
    """Few words and low costs, so that much fits and many ways cost the same."""

    def some_call(self, source):
        def words(least, most):
            return [source.choice((1, 1, 2, 2, 3)) for place in range(source.randint(least, most))]

        def wrong_now_and_then(number, wrong):
            return wrong if source.random() < 0.04 else number

        kind = source.choice("ffffffffgpppppprrtttt")
        if kind == "f":
            length = source.choice((1, 1, 1, 1, 2, 2, 3, 4))
            return phrase(wrong_now_and_then(source.randint(0, 3), 1000), words(length, length), words(0, 3))
        if kind == "g":
            return gone(source.randint(0, 8))
        if kind == "p":
            cost = source.choice((0, 1, 2, 3, 5, 9, 15, 1000))
            return pair(source.randint(0, 3), source.randint(0, 3), wrong_now_and_then(cost, 1001))
        if kind == "r":
            wide = wrong_now_and_then(source.randint(0, 6), 7)
            return prices(source.randint(0, 5), source.choice((0, 0, 0, 1, 2)), wide)
        return translate(*words(0, source.choice((3, 4, 4, 5, 6))))

    def test_as_a_walk_through_all_ways(self):
        source = random.Random(20)
        found = 0
        for attempt in range(500):
            calls = [phrase(source.randint(0, 3), [word], [source.randint(1, 3)]) for word in (1, 2)]
            calls += [self.some_call(source) for place in range(source.randint(1, 28))]
            while sum(call[0] == 4 for call in calls) > 6:
                calls.pop()
            told = ask(*calls)
            self.assertEqual(told, expected(calls), calls)
            found += sum(len(row) > 3 for row in told)
        self.assertGreater(found, 500)


if __name__ == "__main__":
    unittest.main()
