"""The desk: a list of calls about one new machine comes in, the list of their answers goes out."""

from phraseways.machine import Machine, NO_WAY, WRONG, are_words
from phraseways.ways import cheapest_way

PHRASE = 0
GONE = 1
PAIR = 2
PRICES = 3
TRANSLATE = 4

LONGEST_SENTENCE = 5


class UnknownCall(ValueError):
    pass


# Only reads the list that was handed in: rows are given out as copies.
class Reader:
    def __init__(self, numbers):
        self.numbers = numbers
        self.place = 0

    def has_more(self):
        return self.place < len(self.numbers)

    def take(self):
        number = self.numbers[self.place]
        self.place = self.place + 1
        return number

    def take_row(self):
        length = self.take()
        start = self.place
        self.place = start + length
        return self.numbers[start:self.place]


def answers(calls):
    machine = Machine()
    reader = Reader(calls)
    told = []
    while reader.has_more():
        answer = answer_call(machine, reader)
        told.append(len(answer))
        told.extend(answer)
    return told


def answer_call(machine, reader):
    call = reader.take()
    if call == PHRASE:
        return answer_phrase(machine, reader)
    if call == GONE:
        return [machine.drop_phrase(reader.take())]
    if call == PAIR:
        return answer_pair(machine, reader)
    if call == PRICES:
        return answer_prices(machine, reader)
    if call == TRANSLATE:
        return answer_translate(machine, reader)
    raise UnknownCall(f"there is no call {call}")


def answer_phrase(machine, reader):
    cost = reader.take()
    source = reader.take_row()
    target = reader.take_row()
    return [machine.add_phrase(cost, source, target)]


def answer_pair(machine, reader):
    first = reader.take()
    second = reader.take()
    cost = reader.take()
    return [machine.tell_pair(first, second, cost)]


def answer_prices(machine, reader):
    other = reader.take()
    jump = reader.take()
    wide = reader.take()
    return [machine.set_prices(other, jump, wide)]


def answer_translate(machine, reader):
    sentence = reader.take_row()
    if len(sentence) > LONGEST_SENTENCE or not are_words(sentence):
        return [WRONG]
    way = cheapest_way(machine, sentence)
    if way is None:
        return [NO_WAY]
    return told_way(way)


def told_way(way):
    # Two numbers of the flat list are one step.
    return [way.cost, len(way.steps) // 2] + way.steps + [len(way.words)] + way.words
