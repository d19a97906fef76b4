"""The desk: a list of calls about one new machine comes in, the list of their answers goes out."""

from phraseways.machine import Machine, NO_WAY, WRONG, is_sentence
from phraseways.ways import cheapest_sentences, cheapest_way, cheapest_way_to_say, way_by_steps

PHRASE = 0
GONE = 1
PAIR = 2
PRICES = 3
TRANSLATE = 4
FORCE = 5
COST = 6
SOME = 7
PHRASES = 8

LONGEST_SENTENCE = 5
LONGEST_SAID = 15
LONGEST_FOR_SOME = 3
MOST_STEPS = 5
MOST_SENTENCES = 5


class UnknownCall(ValueError):
    pass


# Only reads the list that was handed in: rows are given out as copies.
class Reader:
    def __init__(self, numbers):
        self.numbers = numbers
        self.place = 0

    def has_more(self):
        return self.place < len(self.numbers)

    def take(self):
        number = self.numbers[self.place]
        self.place = self.place + 1
        return number

    def take_row(self):
        length = self.take()
        start = self.place
        self.place = start + length
        return self.numbers[start:self.place]


def answers(calls):
    machine = Machine()
    reader = Reader(calls)
    told = []
    while reader.has_more():
        answer = answer_call(machine, reader)
        told.append(len(answer))
        told.extend(answer)
    return told


def answer_call(machine, reader):
    call = reader.take()
    if call == PHRASE:
        return answer_phrase(machine, reader)
    if call == GONE:
        return [machine.drop_phrase(reader.take())]
    if call == PAIR:
        return answer_pair(machine, reader)
    if call == PRICES:
        return answer_prices(machine, reader)
    if call == TRANSLATE:
        return answer_translate(machine, reader)
    if call == FORCE:
        return answer_force(machine, reader)
    if call == COST:
        return answer_cost(machine, reader)
    if call == SOME:
        return answer_some(machine, reader)
    if call == PHRASES:
        return told_phrases(machine)
    raise UnknownCall(f"there is no call {call}")


def answer_phrase(machine, reader):
    cost = reader.take()
    source = reader.take_row()
    target = reader.take_row()
    return [machine.add_phrase(cost, source, target)]


def answer_pair(machine, reader):
    first = reader.take()
    second = reader.take()
    cost = reader.take()
    return [machine.tell_pair(first, second, cost)]


def answer_prices(machine, reader):
    other = reader.take()
    jump = reader.take()
    wide = reader.take()
    return [machine.set_prices(other, jump, wide)]


def answer_translate(machine, reader):
    sentence = reader.take_row()
    if not is_sentence(sentence, LONGEST_SENTENCE):
        return [WRONG]
    return told_way_if_any(cheapest_way(machine, sentence))


def answer_force(machine, reader):
    sentence = reader.take_row()
    said = reader.take_row()
    if not is_sentence(sentence, LONGEST_SENTENCE) or not is_sentence(said, LONGEST_SAID):
        return [WRONG]
    return told_way_if_any(cheapest_way_to_say(machine, sentence, said))


def answer_cost(machine, reader):
    sentence = reader.take_row()
    steps = reader.take_row()
    # Two numbers of the row are one step.
    if not is_sentence(sentence, LONGEST_SENTENCE) or len(steps) > 2 * MOST_STEPS:
        return [WRONG]
    way = way_by_steps(machine, sentence, steps)
    if way is None:
        return [NO_WAY]
    return [way.cost] + counted(way.words)


def answer_some(machine, reader):
    much = reader.take()
    sentence = reader.take_row()
    if not 1 <= much <= MOST_SENTENCES or not is_sentence(sentence, LONGEST_FOR_SOME):
        return [WRONG]
    ways = cheapest_sentences(machine, sentence, much)
    told = [len(ways)]
    for way in ways:
        told.extend(told_way(way))
    return told


def told_phrases(machine):
    told = [len(machine.phrases)]
    for phrase in machine.phrases:
        told.extend([phrase.number, phrase.cost] + counted(phrase.source) + counted(phrase.target))
    return told


def told_way_if_any(way):
    if way is None:
        return [NO_WAY]
    return told_way(way)


def told_way(way):
    return [way.cost, len(way.steps) // 2] + way.steps + counted(way.words)


def counted(row):
    return [len(row)] + row
