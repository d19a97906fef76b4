"""How the tests write calls, read answers, and work answers out in another way than the program."""

from phraseways.desk import answers


def phrase(cost, source, target):
    return [0, cost, len(source)] + source + [len(target)] + target


def gone(number):
    return [1, number]


def pair(first, second, cost):
    return [2, first, second, cost]


def prices(other, jump, wide):
    return [3, other, jump, wide]


def translate(*sentence):
    return [4, len(sentence)] + list(sentence)


def force(sentence, said):
    return [5, len(sentence)] + sentence + [len(said)] + said


def cost(sentence, *steps):
    """Each step as a pair: from which word, by which phrase."""
    return [6, len(sentence)] + sentence + [2 * len(steps)] + flat(steps)


def some(much, *sentence):
    return [7, much, len(sentence)] + list(sentence)


def phrases():
    return [8]


def flat(calls):
    return [number for call in calls for number in call]


def split(told):
    rows = []
    place = 0
    while place < len(told):
        end = place + 1 + told[place]
        rows.append(told[place + 1:end])
        place = end
    assert place == len(told), "the last answer is shorter than told"
    return rows


def ask(*calls):
    return split(answers(flat(calls)))


def last(*calls):
    return ask(*calls)[-1]


def two_rows(numbers):
    middle = 1 + numbers[0]
    return numbers[1:middle], numbers[middle + 1:]


def is_wrong(sentence, longest):
    return len(sentence) > longest or any(word < 1 or word > 99 for word in sentence)


def told_way(cost, steps, words):
    return [cost, len(steps)] + flat(steps) + [len(words)] + list(words)


class Model:
    """The document's words, with all ways gone through one by one."""

    def __init__(self):
        self.phrases = {}
        self.given = 0
        self.pairs = {}
        self.other, self.jump, self.wide = 0, 1, 6
        # To go through all ways takes long: kept until the machine is changed.
        self.gone_through = {}

    def answer(self, call):
        kind, rest = call[0], call[1:]
        if kind <= 3:
            self.gone_through = {}
        if kind == 0:
            return self.phrase(rest[0], *two_rows(rest[1:]))
        if kind == 4:
            return self.translate(rest[1:])
        if kind == 5:
            return self.force(*two_rows(rest))
        if kind == 6:
            return self.cost(*two_rows(rest))
        if kind == 7:
            return self.some(rest[0], rest[2:])
        return {1: self.gone, 2: self.pair, 3: self.prices, 8: self.all_phrases}[kind](*rest)

    def phrase(self, cost, source, target):
        bad_word = any(word < 1 or word > 99 for word in source + target)
        if cost > 999 or len(source) not in (1, 2, 3) or len(target) > 3 or bad_word:
            return [-1]
        if len(self.phrases) == 6:
            return [-5]
        self.phrases[self.given] = (cost, source, target)
        self.given += 1
        return [self.given - 1]

    def gone(self, number):
        if number not in self.phrases:
            return [-2]
        del self.phrases[number]
        return [len(self.phrases)]

    def pair(self, first, second, cost):
        if first > 99 or second > 99 or cost > 1000:
            return [-1]
        others = [told for told in self.pairs if told != (first, second)]
        if cost < 1000 and len(others) == 20:
            return [-5]
        self.pairs[first, second] = cost
        if cost == 1000:
            del self.pairs[first, second]
        return [len(self.pairs)]

    def prices(self, other, jump, wide):
        if other > 999 or jump > 999 or wide > 6:
            return [-1]
        self.other, self.jump, self.wide = other, jump, wide
        return [0]

    def translate(self, sentence):
        if is_wrong(sentence, 5):
            return [-1]
        found = self.sentences(sentence)
        return told_way(*found[0]) if found else [-6]

    def force(self, sentence, said):
        if is_wrong(sentence, 5) or is_wrong(said, 15):
            return [-1]
        found = [way for way in self.sentences(sentence) if way[2] == tuple(said)]
        return told_way(*found[0]) if found else [-6]

    def cost(self, sentence, way):
        if is_wrong(sentence, 5) or len(way) > 10:
            return [-1]
        wanted = tuple(zip(way[0::2], way[1::2]))
        for paid, steps, words in self.ways(sentence):
            if steps == wanted:
                return [paid, len(words)] + list(words)
        return [-6]

    def some(self, much, sentence):
        if is_wrong(sentence, 3) or much not in (1, 2, 3, 4, 5):
            return [-1]
        found = self.sentences(sentence)[:much]
        return [len(found)] + flat(told_way(*way) for way in found)

    def all_phrases(self):
        rows = [[number, paid, len(source)] + source + [len(target)] + target
                for number, (paid, source, target) in sorted(self.phrases.items())]
        return [len(rows)] + flat(rows)

    def sentences(self, sentence):
        """Of each sentence that is said the first of all its ways, the first ones first."""
        key = tuple(sentence)
        if key not in self.gone_through:
            best = {}
            for way in self.ways(sentence):
                if way[2] not in best or way < best[way[2]]:
                    best[way[2]] = way
            self.gone_through[key] = sorted(best.values())
        return self.gone_through[key]

    def ways(self, sentence, free=None, ended=0, paid=0, steps=(), words=()):
        """All ways, each as what it costs, its steps and its words."""
        free = tuple(range(len(sentence))) if free is None else free
        if not free:
            yield paid + self.behind(words[-1] if words else 0, 0), steps, words
        for start in free:
            width = abs(start - ended)
            for number, (price, source, target) in self.phrases.items():
                wanted = range(start, start + len(source))
                if width > self.wide or any(place not in free for place in wanted):
                    continue
                if [sentence[place] for place in wanted] != source:
                    continue
                row = (words[-1:] or (0,)) + tuple(target)
                more = sum(self.behind(row[at], row[at + 1]) for at in range(len(target)))
                yield from self.ways(sentence, tuple(place for place in free if place not in wanted),
                                     start + len(source), paid + price + self.jump * width + more,
                                     steps + ((start, number),), words + tuple(target))

    def behind(self, first, second):
        return self.pairs.get((first, second), self.other)


def expected(calls):
    model = Model()
    return [model.answer(call) for call in calls]
