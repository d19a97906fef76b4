"""The interface: whole lists of calls, checked against a plain walk through all ways."""

import copy
import random
import unittest

from phraseways.desk import answers
from tests.helper import (Model, ask, cost, expected, flat, force, gone, pair, phrase, phrases, prices, some,
                          translate)


class Form(unittest.TestCase):
    def test_each_answer_has_its_count_ahead(self):
        calls = flat([phrase(3, [1], [7, 8]), translate(1), translate(2), gone(0)])
        self.assertEqual(answers(calls), [1, 0, 7, 3, 1, 0, 0, 2, 7, 8, 1, -6, 1, 0])
        calls = flat([phrase(3, [1], [7]), force([1], [7]), cost([1], (0, 0)), some(5, 1), phrases(), cost([1])])
        self.assertEqual(answers(calls), [1, 0, 6, 3, 1, 0, 0, 1, 7, 3, 3, 1, 7, 7, 1, 3, 1, 0, 0, 1, 7,
                                          7, 1, 0, 3, 1, 1, 1, 7, 1, -6])

    def test_each_call_by_itself(self):
        for call, told in (([0, 1, 1, 1, 0], [1, 0]), ([1, 0], [1, -2]), ([2, 0, 0, 0], [1, 1]),
                           ([3, 0, 0, 0], [1, 0]), ([4, 0], [3, 0, 0, 0]), ([5, 0, 0], [3, 0, 0, 0]),
                           ([6, 0, 0], [2, 0, 0]), ([7, 1, 0], [4, 1, 0, 0, 0]), ([8], [1, 0])):
            self.assertEqual(answers(call), told)

    def test_refused_calls_are_read_to_their_end(self):
        calls = [phrase(1, [], []), phrase(1, [4] * 6, [4] * 6), gone(4), pair(4, 100, 4),
                 prices(4, 4, 7), translate(4, 4, 4, 4, 4, 4, 4, 4), phrase(1, [1], [])]
        self.assertEqual(ask(*calls), [[-1], [-1], [-2], [-1], [-1], [-1], [0]])

    def test_gives_whole_numbers(self):
        told = answers(flat([phrase(3, [1], [7]), prices(0, 1, 6), translate(1), force([1], [7]), cost([1], (0, 0)),
                             some(5, 1), phrases(), gone(0), gone(0)]))
        self.assertEqual([number for number in told if type(number) is not int], [])


MIXED = flat([phrase(1, [1], [7, 8]), phrase(2, [2, 3], []), pair(0, 7, 4), pair(8, 0, 1000),
              prices(3, 2, 4), translate(1, 2, 3), force([1, 2, 3], [7, 8]), cost([1, 2, 3], (1, 1), (0, 0)),
              some(5, 1, 2, 3), phrases(), gone(0), translate(1), force([1], [0]), cost([1], (0, 0)), some(0, 1),
              phrases(), phrase(1, [0], [0])])


class NothingKept(unittest.TestCase):
    def test_what_is_handed_in_is_as_it_was(self):
        calls = list(MIXED)
        answers(calls)
        self.assertEqual(calls, MIXED)

    def test_it_is_not_changed_for_a_while_either(self):
        class Watched(list):
            def refuse(self, *rest):
                raise AssertionError("the list handed in was changed")
            append = extend = insert = pop = remove = clear = reverse = sort = refuse
            __setitem__ = __delitem__ = __iadd__ = __imul__ = refuse

        self.assertEqual(answers(Watched(MIXED)), answers(MIXED))

    def test_the_same_list_twice_is_answered_the_same(self):
        first = answers(MIXED)
        kept = copy.copy(first)
        first.append(5)
        self.assertEqual(answers(MIXED), kept)

    def test_a_new_machine_each_time(self):
        answers(flat([phrase(1, [1], [7]), pair(0, 0, 9), prices(5, 5, 0)]))
        self.assertEqual(ask(translate(1), translate(), force([1], [7]), cost([1], (0, 0)), some(1, 1), phrases(),
                             pair(1, 1, 1), phrase(1, [1], [1])),
                         [[-6], [0, 0, 0], [-6], [-6], [0], [0], [1], [0]])


class FullLists(unittest.TestCase):
    def check(self, calls):
        self.assertEqual(len(calls), 30)
        self.assertEqual(ask(*calls), expected(calls))

    def test_six_phrases_of_one_word_that_fit_everywhere(self):
        calls = [phrase(cost, [1], target) for cost, target in
                 ((5, [7, 8, 9]), (3, [8]), (3, [9, 7]), (9, []), (3, [7]), (4, [6]))]
        calls += [pair(0, 7, 30), pair(8, 8, 20), pair(7, 7, 9), pair(9, 9, 9), pair(7, 0, 25),
                  pair(6, 6, 8), pair(6, 0, 15), pair(8, 7, 1), pair(7, 9, 0), pair(9, 6, 2),
                  pair(0, 0, 999), pair(8, 9, 3)]
        for price in ((0, 1, 6), (4, 0, 6), (4, 999, 6), (0, 0, 6), (999, 7, 5), (6, 0, 3)):
            calls += [prices(*price), translate(1, 1, 1, 1, 1)]
        self.check(calls)

    def test_phrases_of_several_lengths_that_fit_everywhere(self):
        calls = [phrase(cost, [1] * length, target) for cost, length, target in
                 ((2, 1, [7]), (4, 2, [7, 8]), (6, 3, [9, 9, 9]), (2, 1, []), (4, 2, [8]), (6, 3, [7]))]
        calls += [pair(0, 7, 9), pair(7, 0, 9), pair(7, 7, 9), pair(8, 7, 1), pair(9, 9, 0), pair(9, 0, 2),
                  pair(0, 0, 30), pair(0, 8, 2), pair(0, 9, 3), pair(8, 8, 4), pair(8, 0, 4), pair(7, 8, 1)]
        for price in ((0, 0, 6), (1, 1, 6), (3, 0, 2), (0, 0, 0), (5, 2, 1), (2, 0, 5)):
            calls += [prices(*price), translate(1, 1, 1, 1, 1)]
        self.check(calls)

    def test_all_ways_cost_the_same(self):
        calls = [phrase(0, [1], [7]) for number in range(6)]
        calls += [pair(number, 50, 3) for number in range(17)] + [prices(0, 0, 6)]
        calls += [translate(1, 1, 1, 1, 1)] * 6
        told = ask(*calls)
        self.assertEqual(len(told), 30)
        way = [0, 5, 0, 0, 1, 0, 2, 0, 3, 0, 4, 0, 5, 7, 7, 7, 7, 7]
        self.assertEqual(told[24:], [way] * 6)

    # All nine calls, and as many of them as a list may have.
    def nine_calls(self, six, ahead, said, ways):
        calls = [phrase(1, [1], [5]), gone(0)] + six + ahead
        calls += [translate(1, 1, 1, 1, 1)] * 2 + [force([1, 1, 1, 1, 1], words) for words in said]
        calls += [some(much, 1, 1, 1) for much in (5, 1, 3)]
        calls += [cost([1, 1, 1, 1, 1], *way) for way in ways]
        calls += [gone(6), phrases(), some(5, 1, 1, 1), phrase(2, [1], [9]), phrases()]
        self.assertEqual(set(call[0] for call in calls), set(range(9)))
        self.assertEqual(sum(call[0] in (4, 5) for call in calls), 6)
        self.assertEqual(sum(call[0] == 7 for call in calls), 4)
        self.check(calls)

    def test_all_nine_calls_with_phrases_of_one_word(self):
        six = [phrase(paid, [1], target) for paid, target in
               ((5, [7, 8, 9]), (3, [8]), (3, [9, 7]), (9, []), (3, [7]), (4, [8, 9]))]
        ahead = [pair(0, 7, 30), pair(8, 8, 20), pair(7, 7, 9), pair(7, 0, 25), prices(2, 1, 6)]
        said = ([7, 8, 9, 7, 8, 9, 8, 9], [7, 8, 9] * 5, [8, 8, 8, 8, 7], [7, 8] * 7)
        ways = ([(0, 5), (1, 5), (2, 5), (3, 5), (4, 5)], [(4, 1), (0, 2), (3, 3), (1, 4), (2, 6)],
                [(0, 0), (1, 1), (2, 2), (3, 3), (4, 4)])
        self.nine_calls(six, ahead, said, ways)

    def test_all_nine_calls_with_phrases_of_several_lengths(self):
        six = [phrase(paid, [1] * length, target) for paid, length, target in
               ((2, 1, [7]), (4, 2, [7, 8]), (6, 3, [7, 8, 7]), (2, 1, [8]), (4, 2, [8, 7]), (2, 1, []))]
        ahead = [pair(0, 7, 1), pair(8, 8, 1), pair(7, 7, 2), pair(7, 0, 1), prices(1, 0, 3)]
        said = ([7, 8, 7, 8, 7], [8, 7, 8], [7, 7, 8, 8], [7, 8, 7, 8, 7, 8])
        ways = ([(0, 2), (3, 3)], [(0, 3), (3, 2), (1, 5)], [(3, 2), (0, 1), (2, 4)])
        self.nine_calls(six, ahead, said, ways)

    def test_all_nine_calls_with_six_alike(self):
        ways = ([(place, 1) for place in range(5)], [(4 - place, 6) for place in range(5)], [(0, 1), (1, 0)])
        ahead = [prices(0, 0, 6)] + [pair(number, 50, 3) for number in range(4)]
        self.nine_calls([phrase(0, [1], [7])] * 6, ahead, ([7] * 5, [7] * 4, [7] * 6, [8] * 5), ways)


class ManyLists(unittest.TestCase):
    """Few words and low costs, so that much fits and many ways cost the same."""

    def words(self, source, least, most):
        return [source.choice((1, 1, 2, 2, 3)) for place in range(source.randint(least, most))]

    def some_call(self, source, model):
        def words(least, most):
            return self.words(source, least, most)

        def wrong_now_and_then(number, wrong):
            return wrong if source.random() < 0.04 else number

        kind = source.choice("ffffffffgpppppprrtttoooccccccsssa")
        if kind == "f":
            length = source.choice((1, 1, 1, 1, 2, 2, 3, 4))
            return phrase(wrong_now_and_then(source.randint(0, 3), 1000), words(length, length), words(0, 3))
        if kind == "g":
            return gone(source.randint(0, 8))
        if kind == "p":
            paid = source.choice((0, 1, 2, 3, 5, 9, 15, 1000))
            return pair(source.randint(0, 3), source.randint(0, 3), wrong_now_and_then(paid, 1001))
        if kind == "r":
            wide = wrong_now_and_then(source.randint(0, 6), 7)
            return prices(source.randint(0, 5), source.choice((0, 0, 0, 1, 2)), wide)
        if kind == "t":
            return translate(*words(0, source.choice((3, 4, 4, 5, 6))))
        if kind == "s":
            return some(source.choice((0, 1, 2, 3, 4, 5, 5, 5, 6)), *words(0, source.choice((2, 3, 3, 3, 4))))
        return phrases() if kind == "a" else self.call_with_a_way(source, model, kind)

    def call_with_a_way(self, source, model, kind):
        sentence = self.words(source, 0, source.choice((3, 4, 5)))
        ways = list(model.ways(sentence))
        steps, said = source.choice(ways)[1:] if ways else (((0, 0), (1, 1)), (1, 2))
        steps, said = list(steps), list(said)
        if source.random() < 0.2:
            said = source.choice((said[1:], said + [1], self.words(source, 0, 9), said[::-1]))
        if source.random() < 0.3:
            place = source.randint(0, len(steps))
            step = (source.randint(0, 5), source.randint(0, 6))
            steps = source.choice((steps[:place] + [step] + steps[place + 1:], steps[:place], steps[::-1],
                                   steps[:place] + [step] + steps[place:]))
        return force(sentence, said) if kind == "o" else cost(sentence, *steps)

    def some_list(self, source):
        calls = [phrase(source.randint(0, 3), [word], [source.randint(1, 3)]) for word in (1, 2)]
        model = Model()
        for call in calls:
            model.answer(call)
        for place in range(source.randint(1, 28)):
            call = self.some_call(source, model)
            long_ones = sum(other[0] in (4, 5) for other in calls)
            if call[0] in (4, 5) and long_ones == 6 or call[0] == 7 and sum(other[0] == 7 for other in calls) == 4:
                continue
            calls.append(call)
            if call[0] <= 3:
                model.answer(call)
        return calls

    def test_as_a_walk_through_all_ways(self):
        source = random.Random(20)
        found = {}
        for attempt in range(600):
            calls = self.some_list(source)
            told = ask(*calls)
            self.assertEqual(told, expected(calls), calls)
            for call, row in zip(calls, told):
                kind = call[0], row[0] if row[0] < 0 else "answered"
                found[kind] = found.get(kind, 0) + 1
        for kind in range(4, 8):
            self.assertGreater(found[kind, "answered"], 300)
        for kind in ((0, -1), (0, -5), (1, -2), (2, -1), (3, -1), (4, -1), (4, -6), (5, -6), (6, -6), (7, -1)):
            self.assertGreater(found[kind], 15, kind)


if __name__ == "__main__":
    unittest.main()
