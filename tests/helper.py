"""How the tests write calls, read answers, and work answers out in another way than the program."""

from phraseways.desk import answers


def phrase(cost, source, target):
    return [0, cost, len(source)] + source + [len(target)] + target


def gone(number):
    return [1, number]


def pair(first, second, cost):
    return [2, first, second, cost]


def prices(other, jump, wide):
    return [3, other, jump, wide]


def translate(*sentence):
    return [4, len(sentence)] + list(sentence)


def flat(calls):
    return [number for call in calls for number in call]


def split(told):
    rows = []
    place = 0
    while place < len(told):
        end = place + 1 + told[place]
        rows.append(told[place + 1:end])
        place = end
    assert place == len(told), "the last answer is shorter than told"
    return rows


def ask(*calls):
    return split(answers(flat(calls)))


def last(*calls):
    return ask(*calls)[-1]


class Model:
    """The document's words, with all ways gone through one by one."""

    def __init__(self):
        self.phrases = {}
        self.given = 0
        self.pairs = {}
        self.other, self.jump, self.wide = 0, 1, 6

    def answer(self, call):
        kind, rest = call[0], call[1:]
        if kind == 0:
            source = rest[2:2 + rest[1]]
            return self.phrase(rest[0], source, rest[3 + rest[1]:])
        if kind == 4:
            return self.translate(rest[1:])
        return {1: self.gone, 2: self.pair, 3: self.prices}[kind](*rest)

    def phrase(self, cost, source, target):
        bad_word = any(word < 1 or word > 99 for word in source + target)
        if cost > 999 or len(source) not in (1, 2, 3) or len(target) > 3 or bad_word:
            return [-1]
        if len(self.phrases) == 6:
            return [-5]
        self.phrases[self.given] = (cost, source, target)
        self.given += 1
        return [self.given - 1]

    def gone(self, number):
        if number not in self.phrases:
            return [-2]
        del self.phrases[number]
        return [len(self.phrases)]

    def pair(self, first, second, cost):
        if first > 99 or second > 99 or cost > 1000:
            return [-1]
        others = [told for told in self.pairs if told != (first, second)]
        if cost < 1000 and len(others) == 20:
            return [-5]
        self.pairs[first, second] = cost
        if cost == 1000:
            del self.pairs[first, second]
        return [len(self.pairs)]

    def prices(self, other, jump, wide):
        if other > 999 or jump > 999 or wide > 6:
            return [-1]
        self.other, self.jump, self.wide = other, jump, wide
        return [0]

    def translate(self, sentence):
        if len(sentence) > 5 or any(word < 1 or word > 99 for word in sentence):
            return [-1]
        best = min(self.ways(sentence), default=None)
        if best is None:
            return [-6]
        cost, steps, words = best
        return [cost, len(steps)] + flat(steps) + [len(words)] + list(words)

    def ways(self, sentence):
        """All ways, each as what it costs, its steps and its words."""
        found = []

        def go_on(free, ended, cost, steps, words):
            if not free:
                found.append((cost + self.behind(words[-1] if words else 0, 0), steps, words))
            for start in free:
                width = abs(start - ended)
                for number, (price, source, target) in self.phrases.items():
                    wanted = range(start, start + len(source))
                    if width > self.wide or any(place not in free for place in wanted):
                        continue
                    if [sentence[place] for place in wanted] != source:
                        continue
                    row = (words[-1:] or (0,)) + tuple(target)
                    paid = sum(self.behind(row[at], row[at + 1]) for at in range(len(target)))
                    go_on([place for place in free if place not in wanted], start + len(source),
                          cost + price + self.jump * width + paid,
                          steps + ((start, number),), words + tuple(target))

        go_on(list(range(len(sentence))), 0, 0, (), ())
        return found

    def behind(self, first, second):
        return self.pairs.get((first, second), self.other)


def expected(calls):
    model = Model()
    return [model.answer(call) for call in calls]
